package snap_test

import (
	"bytes"
	"crypto/sha256"
	"fmt"
	"maps"
	"math"
	"math/rand"
	"slices"
	"strconv"
	"strings"
	"sync"
	"testing"

	"notary/api"
	"notary/digest"
	"notary/entry"
	"notary/proof"
	"notary/snap"
)

func put(key, value string) api.Entry {
	return api.Entry{Kind: api.Put, Key: []byte(key), Value: []byte(value)}
}

func del(key string) api.Entry { return api.Entry{Kind: api.Delete, Key: []byte(key)} }

func made(t testing.TB, w int) *snap.Snap {
	t.Helper()
	s, e := snap.New(w)
	if e != api.OK || s == nil {
		t.Fatalf("New(%d): %v, %d", w, s, e)
	}
	return s
}

// grow answers the ledger with the entries behind it as one batch.
func grow(t testing.TB, s *snap.Snap, entries ...api.Entry) *snap.Snap {
	t.Helper()
	u, e := s.Apply(api.Batch{First: s.Size(), Entries: entries})
	if e != api.OK || u == nil {
		t.Fatalf("Apply of %d entries to %d: %v, %d", len(entries), s.Size(), u, e)
	}
	return u
}

// ledger is what a snapshot is held against: a width, entries, and the boundaries.
type ledger struct {
	w       int
	entries []api.Entry
	sizes   []uint64
}

func empty(w int) ledger { return ledger{w: w, sizes: []uint64{0}} }

// with answers the ledger with a batch more.
func (l ledger) with(entries ...api.Entry) ledger {
	all := slices.Concat(l.entries, entries)
	return ledger{l.w, all, append(slices.Clone(l.sizes), uint64(len(all)))}
}

// keys answers all keys that stand in the entries, and some that perhaps don't.
func (l ledger) keys() []string {
	all := map[string]bool{"": true, "none": true, "k": true, strings.Repeat("z", api.MaxKey): true}
	for _, e := range l.entries {
		all[string(e.Key)] = true
	}
	return slices.Sorted(maps.Keys(all))
}

// beyond are numbers above the size n.
func beyond(n uint64) []uint64 {
	return []uint64{n + 1, n + 2, n + 256, n + 1<<32, 1 << 63, math.MaxUint64}
}

// holds fails unless each answer of the snapshot is what the words say of this ledger.
func holds(t *testing.T, s *snap.Snap, l ledger) {
	t.Helper()
	holdsRoot(t, s, l)
	holdsReads(t, s, l)
	holdsReceipts(t, s, l)
}

func holdsRoot(t *testing.T, s *snap.Snap, l ledger) {
	t.Helper()
	want := wordsRoot(l.w, l.entries)
	if s.Size() != want.Size || s.Width() != l.w || s.Root() != want || s.Sealed() != wordsSeal(l.w, want) || !slices.Equal(s.Sizes(), l.sizes) {
		t.Fatalf("width %d, size %d: Size %d, Width %d, Root %x, Sealed %x, Sizes %v, want %x, %v", l.w, want.Size, s.Size(), s.Width(), s.Root(), s.Sealed(), s.Sizes(), want, l.sizes)
	}
}

func holdsReads(t *testing.T, s *snap.Snap, l ledger) {
	t.Helper()
	size := uint64(len(l.entries))
	for i, want := range l.entries {
		if got, e := s.Entry(uint64(i)); e != api.OK || !sameEntry(got, want) {
			t.Fatalf("width %d: Entry(%d) = %q, %d, want %q", l.w, i, got, e, want)
		}
	}
	for _, i := range append(beyond(size), size) {
		if got, e := s.Entry(i); e != api.ErrRange || got.Kind != 0 || got.Key != nil || got.Value != nil {
			t.Fatalf("size %d: Entry(%d) = %q, %d", size, i, got, e)
		}
	}
	b := bookOf(l.entries)
	for _, key := range l.keys() {
		want, has := b[key]
		if value, ok, e := s.Get([]byte(key)); string(value) != want || ok != has || e != api.OK {
			t.Fatalf("width %d: Get(%q) = %q, %v, %d, want %q, %v", l.w, key, value, ok, e, want, has)
		}
	}
	for n := range size + 1 {
		want, wantE := api.Root{}, api.ErrNone
		if slices.Contains(l.sizes, n) {
			want, wantE = wordsRoot(l.w, l.entries[:n]), api.OK
		}
		if r, e := s.Past(n); r != want || e != wantE {
			t.Fatalf("width %d, Sizes %v: Past(%d) = %x, %d, want %x, %d", l.w, l.sizes, n, r, e, want, wantE)
		}
	}
	for _, n := range beyond(size) {
		if r, e := s.Past(n); r != (api.Root{}) || e != api.ErrRange {
			t.Fatalf("size %d: Past(%d) = %x, %d", size, n, r, e)
		}
	}
}

func holdsReceipts(t *testing.T, s *snap.Snap, l ledger) {
	t.Helper()
	size := uint64(len(l.entries))
	seal := wordsSeal(l.w, wordsRoot(l.w, l.entries))
	for i, own := range l.entries {
		p, e := s.ReceiptEntry(uint64(i))
		shows(t, l.w, "the entry", p, e, receiptOfEntry(l.w, l.entries, i), api.Claim{Kind: api.ClaimEntry, Root: seal, Index: uint64(i), Entry: own})
	}
	b := bookOf(l.entries)
	for _, key := range l.keys() {
		value, has := b[key]
		p, e := s.ReceiptKey([]byte(key))
		shows(t, l.w, "the key", p, e, receiptOfKey(l.w, l.entries, key), api.Claim{Kind: api.ClaimKey, Root: seal, Key: []byte(key), Value: []byte(value), Present: has})
	}
	for n := range size + 1 {
		p, e := s.ReceiptSince(n)
		if !slices.Contains(l.sizes, n) {
			wantsNothing(t, "ReceiptSince of no boundary", p, e, api.ErrNone)
			continue
		}
		old := wordsSeal(l.w, wordsRoot(l.w, l.entries[:n]))
		shows(t, l.w, "the beginning", p, e, receiptSince(l.w, l.entries, int(n)), api.Claim{Kind: api.ClaimSince, Root: seal, Old: old})
	}
	for _, n := range beyond(size) {
		p, e := s.ReceiptSince(n)
		wantsNothing(t, "ReceiptSince beyond", p, e, api.ErrRange)
	}
	for _, i := range append(beyond(size), size) {
		p, e := s.ReceiptEntry(i)
		wantsNothing(t, "ReceiptEntry beyond", p, e, api.ErrRange)
	}
}

// shows fails unless a receipt is answered, has these bytes, and is accepted for the claim.
func shows(t *testing.T, w int, what string, p []byte, e api.Errno, want []byte, c api.Claim) {
	t.Helper()
	if e != api.OK || !bytes.Equal(p, want) {
		t.Fatalf("width %d: the receipt of %s: %x, %d, want %x", w, what, p, e, want)
	}
	if e := proof.Verify(w, c, p); e != api.OK {
		t.Fatalf("width %d: the receipt of %s is not accepted: %d", w, what, e)
	}
}

func wantsNothing(t *testing.T, what string, p []byte, e, want api.Errno) {
	t.Helper()
	if len(p) != 0 || e != want {
		t.Fatalf("%s: %x, %d, want %d", what, p, e, want)
	}
}

// anyEntry answers an entry of one of some keys, now and then one at the limits.
func anyEntry(r *rand.Rand, keys int) api.Entry {
	key := "k" + strconv.Itoa(r.Intn(keys))
	switch r.Intn(12) {
	case 0:
		key = ""
	case 1:
		key = strings.Repeat("z", api.MaxKey)
	}
	switch r.Intn(5) {
	case 0, 1:
		return del(key)
	case 2:
		return put(key, "")
	}
	return put(key, strings.Repeat("v", r.Intn(3))+strconv.Itoa(r.Intn(100)))
}

func anyEntries(r *rand.Rand, n, keys int) []api.Entry {
	var list []api.Entry
	for range n {
		list = append(list, anyEntry(r, keys))
	}
	return list
}

func TestP19_1_New(t *testing.T) {
	for w := 1; w <= api.MaxWidth; w++ {
		holds(t, made(t, w), empty(w))
	}
	for _, w := range []int{0, -1, 33, 34, 64, 256 + 4, 1<<32 + 4, math.MaxInt, math.MinInt} {
		if s, e := snap.New(w); s != nil || e != api.ErrArg {
			t.Errorf("New(%d): %v, %d", w, s, e)
		}
	}
}

// At each width, batch behind batch: each answer is what the words say.
func TestP19_2_BatchBehindBatch(t *testing.T) {
	r := rand.New(rand.NewSource(191))
	for w := 1; w <= api.MaxWidth; w++ {
		s, l := made(t, w), empty(w)
		for range 5 {
			batch := anyEntries(r, 1+r.Intn(5), 6)
			s, l = grow(t, s, batch...), l.with(batch...)
			holds(t, s, l)
		}
	}
}

func TestP19_2_AtTheLimits(t *testing.T) {
	for _, w := range []int{1, 32} {
		var full []api.Entry
		for i := range api.MaxBatch {
			key := fmt.Sprintf("%064d", i)
			full = append(full, put(key, strings.Repeat("v", api.MaxValue)))
		}
		s, l := grow(t, made(t, w), full...), empty(w).with(full...)
		holdsRoot(t, s, l)
		holdsReads(t, s, l)
		for i := range full {
			full[i] = del(string(full[i].Key))
		}
		s, l = grow(t, s, full...), l.with(full...)
		holds(t, s, l)
		s, l = grow(t, s, put("", "")), l.with(put("", ""))
		holdsRoot(t, s, l)
		holdsReads(t, s, l)
	}
}

// wrong is a batch behind a ledger of the size that Apply must refuse.
type wrong struct {
	name string
	b    api.Batch
	e    api.Errno
}

func wrongs(size uint64) []wrong {
	good := []api.Entry{put("a", "1"), del("b")}
	with := func(e api.Entry) []api.Entry { return []api.Entry{good[0], e, good[1]} }
	long := put(strings.Repeat("k", api.MaxKey+1), "")
	odd := api.Entry{Kind: 3}
	many := slices.Repeat(good[:1], api.MaxBatch+1)
	return []wrong{
		{"no entries", api.Batch{First: size}, api.ErrForm},
		{"no entries, in a list", api.Batch{First: size, Entries: []api.Entry{}}, api.ErrForm},
		{"no entries, another First", api.Batch{First: size + 1}, api.ErrForm},
		{"First one more", api.Batch{First: size + 1, Entries: good}, api.ErrForm},
		{"First one less", api.Batch{First: size - 1, Entries: good}, api.ErrForm},
		{"First 2^32 more", api.Batch{First: size + 1<<32, Entries: good}, api.ErrForm},
		{"First 2^63 more", api.Batch{First: size + 1<<63, Entries: good}, api.ErrForm},
		{"the last First of all", api.Batch{First: math.MaxUint64, Entries: good[:1]}, api.ErrForm},
		{"First beyond all sizes", api.Batch{First: math.MaxUint64 - 1, Entries: good}, api.ErrForm},
		{"65 entries", api.Batch{First: size, Entries: many}, api.ErrLong},
		{"65 entries, another First", api.Batch{First: size + 1, Entries: many}, api.ErrLong},
		{"65 entries, one of them odd", api.Batch{First: size, Entries: append(slices.Clone(many), odd)}, api.ErrLong},
		{"a long key", api.Batch{First: size, Entries: with(long)}, api.ErrLong},
		{"a long key, another First", api.Batch{First: size + 7, Entries: with(long)}, api.ErrLong},
		{"a long key of a Delete", api.Batch{First: size, Entries: with(del(string(long.Key)))}, api.ErrLong},
		{"a long value", api.Batch{First: size, Entries: with(put("a", strings.Repeat("v", api.MaxValue+1)))}, api.ErrLong},
		{"a long key behind an odd kind", api.Batch{First: size, Entries: []api.Entry{odd, long}}, api.ErrLong},
		{"a kind that is none", api.Batch{First: size, Entries: with(odd)}, api.ErrForm},
		{"no kind", api.Batch{First: size, Entries: with(api.Entry{Key: []byte("a")})}, api.ErrForm},
		{"a Delete with a value", api.Batch{First: size, Entries: with(api.Entry{Kind: api.Delete, Key: []byte("a"), Value: []byte("1")})}, api.ErrForm},
	}
}

// What is refused leaves the ledger as it was, and a batch that is right still goes behind it.
func TestP19_2_Refused(t *testing.T) {
	for _, w := range []int{1, 4, 32} {
		s, l := made(t, w), empty(w)
		for _, batch := range [][]api.Entry{{put("a", "0")}, {put("b", "0"), del("a"), put("c", "")}, {put("a", "5")}} {
			for _, c := range wrongs(s.Size()) {
				if u, e := s.Apply(c.b); u != nil || e != c.e {
					t.Fatalf("%s: %v, %d, want %d", c.name, u, e, c.e)
				}
				if _, e := entry.EncodeBatch(c.b); e != api.OK && e != c.e {
					t.Fatalf("%s: not what EncodeBatch says: %d", c.name, e)
				}
			}
			holds(t, s, l)
			s, l = grow(t, s, batch...), l.with(batch...)
		}
	}
}

// A batch of the size's First is right at each size, and at no other.
func TestP19_2_FirstIsTheSize(t *testing.T) {
	s := made(t, 2)
	for size := range uint64(40) {
		for first := range uint64(44) {
			u, e := s.Apply(api.Batch{First: first, Entries: []api.Entry{put("a", "1")}})
			if first != size && (e != api.ErrForm || u != nil) || first == size && (e != api.OK || u.Size() != size+1) {
				t.Fatalf("First %d behind %d entries: %v, %d", first, size, u, e)
			}
		}
		s = grow(t, s, del("a"))
	}
}

// Any number of ledgers come from one, and none sees what another was given.
func TestP19_2_Forks(t *testing.T) {
	r := rand.New(rand.NewSource(192))
	for _, w := range []int{1, 2, 32} {
		snaps, ledgers := []*snap.Snap{made(t, w)}, []ledger{empty(w)}
		for range 40 {
			from := r.Intn(len(snaps))
			batch := anyEntries(r, 1+r.Intn(4), 5)
			snaps = append(snaps, grow(t, snaps[from], batch...))
			ledgers = append(ledgers, ledgers[from].with(batch...))
		}
		for i, s := range snaps {
			holds(t, s, ledgers[i])
		}
	}
}

// The brothers of one ledger, at each size around powers of two, where spare room would be shared.
func TestP19_2_Brothers(t *testing.T) {
	const w = 3
	s, l := made(t, w), empty(w)
	for i := range 34 {
		var brothers []*snap.Snap
		for j := range 3 {
			brothers = append(brothers, grow(t, s, put("own", fmt.Sprint(i, j))))
		}
		for j, b := range brothers {
			own := l.with(put("own", fmt.Sprint(i, j)))
			holdsRoot(t, b, own)
			if e, _ := b.Entry(uint64(i)); string(e.Value) != fmt.Sprint(i, j) {
				t.Fatalf("size %d: the brother %d has the entry %q", i, j, e)
			}
			if value, _, _ := b.Get([]byte("own")); string(value) != fmt.Sprint(i, j) {
				t.Fatalf("size %d: the brother %d has the value %q", i, j, value)
			}
		}
		s, l = grow(t, s, put("k", strconv.Itoa(i))), l.with(put("k", strconv.Itoa(i)))
		holdsRoot(t, s, l)
	}
}

// A Delete of a key without a value is an entry like others.
func TestP19_2_DeleteOfNothing(t *testing.T) {
	for _, w := range []int{1, 32} {
		s, l := grow(t, made(t, w), del("x")), empty(w).with(del("x"))
		holds(t, s, l)
		one := grow(t, made(t, w), put("a", "1"))
		two, twoLedger := grow(t, one, del("b"), del("")), empty(w).with(put("a", "1")).with(del("b"), del(""))
		holds(t, two, twoLedger)
		if two.Root().Map != one.Root().Map || two.Root().Log == one.Root().Log && w == 32 {
			t.Errorf("width %d: deletes of nothing: %x, then %x", w, one.Root(), two.Root())
		}
	}
}

// What was overwritten and what was deleted leaves the log's digest alone changed.
func TestP19_3_TheMapForgets(t *testing.T) {
	for _, w := range []int{1, 4, 32} {
		noMap, _ := digest.NoMap(w)
		s, l := made(t, w), empty(w)
		for i := range 20 {
			own := put("k"+strconv.Itoa(i), "v")
			s, l = grow(t, s, own), l.with(own)
		}
		straight := s.Root().Map
		detour := grow(t, grow(t, s, put("more", "1"), put("k3", "else"), del("k4")), del("more"), put("k3", "v"), put("k4", "v"))
		if detour.Root().Map != straight {
			t.Errorf("width %d: the map of the same pairs: %x and %x", w, straight, detour.Root().Map)
		}
		for i := range 20 {
			own := del("k" + strconv.Itoa(19-i))
			s, l = grow(t, s, own), l.with(own)
		}
		if s.Root().Map != noMap {
			t.Errorf("width %d: all keys are gone: %x", w, s.Root().Map)
		}
		holds(t, s, l)
	}
}

// Within one batch the later entry of a key counts.
func TestP19_3_OneKeyInABatch(t *testing.T) {
	for _, w := range []int{1, 32} {
		for _, batch := range [][]api.Entry{
			{put("a", "1"), put("a", "2"), put("a", "3")},
			{put("a", "1"), del("a")},
			{del("a"), put("a", "1")},
			{put("a", "1"), del("a"), put("a", ""), put("b", "1"), del("b"), del("b")},
		} {
			holds(t, grow(t, made(t, w), batch...), empty(w).with(batch...))
		}
	}
}

func TestP19_4_Entry(t *testing.T) {
	s, l := made(t, 8), empty(8)
	for i, n := range []int{1, 64, 2, 63, 3, 1, 1, 1, 17} {
		var batch []api.Entry
		for j := range n {
			batch = append(batch, put(fmt.Sprint(i, "-", j), strings.Repeat("v", j)))
		}
		s, l = grow(t, s, batch...), l.with(batch...)
	}
	holdsReads(t, s, l)
}

func TestP19_5_LongKeys(t *testing.T) {
	longest := strings.Repeat("k", api.MaxKey)
	for _, s := range []*snap.Snap{made(t, 4), grow(t, made(t, 4), put(longest, "v"), put("k", ""))} {
		for _, key := range []string{longest + "k", strings.Repeat("x", 100000)} {
			if value, has, e := s.Get([]byte(key)); value != nil || has || e != api.ErrLong {
				t.Errorf("Get of %d bytes: %q, %v, %d", len(key), value, has, e)
			}
			p, e := s.ReceiptKey([]byte(key))
			wantsNothing(t, "ReceiptKey of a long key", p, e, api.ErrLong)
		}
	}
	s := grow(t, made(t, 4), put(longest, "v"), put("", ""))
	for key, want := range map[string]string{longest: "v", "": ""} {
		if value, has, e := s.Get([]byte(key)); string(value) != want || !has || e != api.OK {
			t.Errorf("Get(%q): %q, %v, %d", key, value, has, e)
		}
	}
	if value, has, e := s.Get([]byte(longest[1:])); len(value) != 0 || has || e != api.OK {
		t.Errorf("Get of a key that is shorter by one: %q, %v, %d", value, has, e)
	}
}

// Of many boundaries each one is found, whatever their count, and no other size is taken for one.
func TestP19_6_ManyBoundaries(t *testing.T) {
	r := rand.New(rand.NewSource(196))
	for _, most := range []int{1, 2, 5, 64} {
		s := made(t, 1)
		roots, sizes := map[uint64]api.Root{0: s.Root()}, []uint64{0}
		var entries []api.Entry
		for range 150 {
			batch := anyEntries(r, 1+r.Intn(most), 9)
			s = grow(t, s, batch...)
			entries = append(entries, batch...)
			sizes = append(sizes, uint64(len(entries)))
			roots[s.Size()] = s.Root()
			if !slices.Equal(s.Sizes(), sizes) {
				t.Fatalf("Sizes %v, want %v", s.Sizes(), sizes)
			}
			for n := range s.Size() + 3 {
				want, wantE := roots[n], api.OK
				if _, is := roots[n]; !is {
					wantE = api.ErrNone
				}
				if n > s.Size() {
					wantE = api.ErrRange
				}
				if got, e := s.Past(n); got != want || e != wantE {
					t.Fatalf("Past(%d) of %v: %x, %d, want %x, %d", n, sizes, got, e, want, wantE)
				}
			}
		}
		for i, want := range entries {
			if got, e := s.Entry(uint64(i)); e != api.OK || !sameEntry(got, want) {
				t.Fatalf("Entry(%d): %q, %d", i, got, e)
			}
		}
	}
}

// The roots of the boundaries are those that the older ledgers had, also where two of them part.
func TestP19_6_PastOfForks(t *testing.T) {
	s := grow(t, grow(t, made(t, 4), put("a", "1")), put("b", "1"), put("c", "1"))
	l, r := grow(t, s, put("l", "1")), grow(t, s, put("r", "1"), put("r", "2"))
	for n, want := range map[uint64]api.Root{0: made(t, 4).Root(), 1: grow(t, made(t, 4), put("a", "1")).Root(), 3: s.Root()} {
		a, e := l.Past(n)
		b, f := r.Past(n)
		if a != want || b != want || e != api.OK || f != api.OK {
			t.Errorf("Past(%d): %x and %x, %d and %d, want %x", n, a, b, e, f, want)
		}
	}
	if _, e := l.Past(5); e != api.ErrRange {
		t.Errorf("Past(5) of the size 4: %d", e)
	}
	if _, e := r.Past(4); e != api.ErrNone {
		t.Errorf("Past(4), a boundary of the brother: %d", e)
	}
	if a, e := r.Past(5); a != r.Root() || e != api.OK {
		t.Errorf("Past(5), the size: %d", e)
	}
	if _, e := r.ReceiptSince(4); e != api.ErrNone {
		t.Errorf("ReceiptSince(4), a boundary of the brother: %d", e)
	}
}

// At each size up to some all receipts are accepted for what is so, and none for what isn't.
func TestP19_7_WhatIsSoAlone(t *testing.T) {
	const w = 32
	s, l := made(t, w), empty(w)
	for i := range 9 {
		own := []api.Entry{put("k"+strconv.Itoa(i%3), strconv.Itoa(i)), del("k" + strconv.Itoa((i+1)%3))}
		s, l = grow(t, s, own...), l.with(own...)
	}
	var receipts [][]byte
	var claims []api.Claim
	for i := range s.Size() {
		p, _ := s.ReceiptEntry(i)
		own, _ := s.Entry(i)
		receipts = append(receipts, p)
		claims = append(claims, api.Claim{Kind: api.ClaimEntry, Root: s.Sealed(), Index: i, Entry: own})
	}
	for _, key := range l.keys() {
		p, _ := s.ReceiptKey([]byte(key))
		value, has, _ := s.Get([]byte(key))
		receipts = append(receipts, p)
		claims = append(claims, api.Claim{Kind: api.ClaimKey, Root: s.Sealed(), Key: []byte(key), Value: value, Present: has})
	}
	for _, n := range s.Sizes() {
		p, _ := s.ReceiptSince(n)
		old, _ := s.Past(n)
		seal, _ := digest.Root(w, old)
		receipts = append(receipts, p)
		claims = append(claims, api.Claim{Kind: api.ClaimSince, Root: s.Sealed(), Old: seal})
	}
	for i, c := range claims {
		for j, p := range receipts {
			want := api.ErrProof
			if i == j {
				want = api.OK
			}
			if e := proof.Verify(w, c, p); e != want {
				t.Fatalf("the claim %d with the receipt %d: %d, want %d", i, j, e, want)
			}
		}
		c.Root[0]++
		if e := proof.Verify(w, c, receipts[i]); e != api.ErrProof {
			t.Fatalf("the claim %d under another root: %d", i, e)
		}
	}
}

// At the width 1 with more keys than digests buckets have many pairs; each key has its own value all the same.
func TestP19_7_CrowdedBuckets(t *testing.T) {
	const w = 1
	s, l := made(t, w), empty(w)
	for i := range 10 {
		var batch []api.Entry
		for j := range 60 {
			batch = append(batch, put("k"+strconv.Itoa(60*i+j), strconv.Itoa(j)))
		}
		s, l = grow(t, s, batch...), l.with(batch...)
	}
	seal := wordsSeal(w, wordsRoot(w, l.entries))
	for i := range 700 {
		key := "k" + strconv.Itoa(i)
		c := api.Claim{Kind: api.ClaimKey, Root: seal, Key: []byte(key), Present: i < 600}
		if c.Present {
			c.Value = []byte(strconv.Itoa(i % 60))
		}
		p, e := s.ReceiptKey([]byte(key))
		if e != api.OK || proof.Verify(w, c, p) != api.OK {
			t.Fatalf("the receipt of %q: %x, %d, %d", key, p, e, proof.Verify(w, c, p))
		}
		if value, has, _ := s.Get([]byte(key)); has != c.Present || !bytes.Equal(value, c.Value) {
			t.Fatalf("Get(%q): %q, %v", key, value, has)
		}
		if i%50 == 0 {
			shows(t, w, key, p, e, receiptOfKey(w, l.entries, key), c)
		}
	}
}

// Root and receipts hang on the width and the entries alone, not on how the entries stand in batches.
func TestP19_8_HoweverCut(t *testing.T) {
	r := rand.New(rand.NewSource(198))
	for _, w := range []int{1, 2, 32} {
		entries := anyEntries(r, 30, 7)
		whole, wholeLedger := grow(t, made(t, w), entries...), empty(w).with(entries...)
		holds(t, whole, wholeLedger)
		for range 8 {
			s, l := made(t, w), empty(w)
			for left := entries; len(left) > 0; {
				n := 1 + r.Intn(min(len(left), 9))
				s, l = grow(t, s, left[:n]...), l.with(left[:n]...)
				left = left[n:]
			}
			alike(t, s, whole, l)
			holds(t, s, l)
		}
	}
}

// alike fails unless two ledgers of the same entries have one root and the same receipts, but those since no boundary of both.
func alike(t *testing.T, a, b *snap.Snap, l ledger) {
	t.Helper()
	if a.Root() != b.Root() || a.Sealed() != b.Sealed() {
		t.Fatalf("the roots %x and %x", a.Root(), b.Root())
	}
	same := func(what string, p []byte, e api.Errno, q []byte, f api.Errno) {
		t.Helper()
		if e != api.OK || f != api.OK || !bytes.Equal(p, q) {
			t.Fatalf("%s: %x, %d and %x, %d", what, p, e, q, f)
		}
	}
	for i := range a.Size() {
		p, e := a.ReceiptEntry(i)
		q, f := b.ReceiptEntry(i)
		same("ReceiptEntry", p, e, q, f)
	}
	for _, key := range l.keys() {
		p, e := a.ReceiptKey([]byte(key))
		q, f := b.ReceiptKey([]byte(key))
		same("ReceiptKey", p, e, q, f)
	}
	for _, n := range a.Sizes() {
		if slices.Contains(b.Sizes(), n) {
			p, e := a.ReceiptSince(n)
			q, f := b.ReceiptSince(n)
			same("ReceiptSince", p, e, q, f)
		}
	}
}

func TestP19_Examples(t *testing.T) {
	s := made(t, 32)
	noLog, _ := digest.NoLog(32)
	noMap, _ := digest.NoMap(32)
	nothing := api.Root{Log: noLog, Map: noMap}
	if s.Size() != 0 || !slices.Equal(s.Sizes(), []uint64{0}) || s.Root() != nothing {
		t.Errorf("1: %d, %v, %x", s.Size(), s.Sizes(), s.Root())
	}
	if !strings.HasPrefix(fmt.Sprintf("%x", s.Root().Log), "e3b0c44298fc1c14") {
		t.Errorf("DOC.md, example 1: %x", s.Root().Log)
	}
	if _, e := s.Entry(0); e != api.ErrRange {
		t.Errorf("1: Entry(0): %d", e)
	}
	if r, e := s.Past(0); r != nothing || e != api.OK {
		t.Errorf("1: Past(0): %x, %d", r, e)
	}
	if _, e := s.Past(1); e != api.ErrRange {
		t.Errorf("1: Past(1): %d", e)
	}
	p, e := s.ReceiptSince(0)
	if f := proof.Verify(32, api.Claim{Kind: api.ClaimSince, Root: s.Sealed(), Old: s.Sealed()}, p); e != api.OK || f != api.OK {
		t.Errorf("1: ReceiptSince(0): %d, %d", e, f)
	}
	u := grow(t, s, put("a", "1"), del("b"), put("a", "2"))
	holds(t, u, empty(32).with(put("a", "1"), del("b"), put("a", "2")))
	p, _ = u.ReceiptEntry(0)
	if c, e := proof.Claimed(32, p); e != api.OK || c.Index != 0 || !sameEntry(c.Entry, put("a", "1")) {
		t.Errorf("2: ReceiptEntry(0) shows %v, %d", c, e)
	}
	for _, b := range []api.Batch{{First: 2, Entries: []api.Entry{put("a", "1")}}, {First: 3}} {
		if v, e := u.Apply(b); v != nil || e != api.ErrForm {
			t.Errorf("2: Apply of %v: %d", b, e)
		}
	}
	if v, e := u.Apply(api.Batch{First: 3, Entries: slices.Repeat([]api.Entry{put("a", "1")}, 65)}); v != nil || e != api.ErrLong {
		t.Errorf("2: Apply of 65 entries: %d", e)
	}
	if gone := grow(t, s, put("a", "1"), del("a")); gone.Root().Map != noMap {
		t.Errorf("3: %x", gone.Root().Map)
	}
}

// DOC.md's examples 7 and 8.
func TestExamplesOfTheWhole(t *testing.T) {
	one := grow(t, made(t, 32), put("a", "x"))
	p, e := one.ReceiptEntry(1)
	wantsNothing(t, "7: the entry at 1 of the size 1", p, e, api.ErrRange)
	seen := map[string]string{}
	for i := 0; ; i++ {
		key := "k" + strconv.Itoa(i)
		other, met := seen[digits(1, key)]
		seen[digits(1, key)] = key
		if !met {
			continue
		}
		s := grow(t, made(t, 1), put(other, "one"), put(key, "two"))
		v, _, _ := s.Get([]byte(other))
		u, _, _ := s.Get([]byte(key))
		if string(v) != "one" || string(u) != "two" {
			t.Errorf("8: %q and %q in one bucket: %q and %q", other, key, v, u)
		}
		holds(t, s, empty(1).with(put(other, "one"), put(key, "two")))
		return
	}
}

// Roots and receipts of one ledger, made by another program; of the receipts the SHA-256 of their bytes.
func TestP19_7_MadeElsewhere(t *testing.T) {
	entries := []api.Entry{put("a", "1"), del("b"), put("a", "2"), put("", ""), put("c", strings.Repeat("x", 200)), put("d", "4"), del("c")}
	for w, want := range map[int][]string{
		2: {
			"16bb", "e115", "4439",
			"936fe172c121e1e9b3e47495acba02d21d9c98962e5ea39ec8014d7caebba80a",
			"bb55f240fe6383372790ada8e148fc10e2b407241dd64ea10fd55741df187514",
			"bd64f81706e97ee30178d5c89bba0eda4be375a5bf96db25eedaf464ae8f6741",
			"d3de3c424630b26f773ed0d1702afdd61493bc7ddbac2d828911b7c0ce0e09f3",
		},
		32: {
			"5447b0010d6f50504152df2d175bc76409821e80d717a4da660e14770bf7d89b",
			"c8ea4db430cbe6f4ecda2fa1a2e933dba883d16a0c2458d9b839a5d3db2d312a",
			"a70a36ae8ec779097ae6f3be58ce52d01b40b41f8fabfa33a0212d180fe2492a",
			"4ca0ce0abe66d28a099b903a19171d3952664cba60010c8c8e55a7f3575697f0",
			"4bdfe1901d0951135a33c39c7a839a7c0b0c37750dc90207feecf4588ddfbe0c",
			"2da705669cf6ca09c8dede55db6dcd22e6cda9b14bf0ee4834af280176b8f126",
			"54b070765c4d2ef782abcb4527b214a397d94a1b1f48dbc56cf0f34dbab40433",
		},
	} {
		s := grow(t, grow(t, made(t, w), entries[:3]...), entries[3:]...)
		root, seal := s.Root(), s.Sealed()
		got := []string{fmt.Sprintf("%x", root.Log[:w]), fmt.Sprintf("%x", root.Map[:w]), fmt.Sprintf("%x", seal[:w])}
		one, _ := s.ReceiptEntry(4)
		there, _ := s.ReceiptKey([]byte("a"))
		gone, _ := s.ReceiptKey([]byte("c"))
		since, _ := s.ReceiptSince(3)
		for _, p := range [][]byte{one, there, gone, since} {
			got = append(got, fmt.Sprintf("%x", sha256.Sum256(p)))
		}
		if !slices.Equal(got, want) {
			t.Errorf("width %d: %q, want %q", w, got, want)
		}
	}
}

// noLedgers are those of which nothing can be answered.
func noLedgers() []*snap.Snap { return []*snap.Snap{nil, {}, new(snap.Snap)} }

func TestP1_NoSnap(t *testing.T) {
	long := make([]byte, api.MaxKey+1)
	for i, s := range noLedgers() {
		if s.Size() != 0 || s.Width() != 0 || s.Root() != (api.Root{}) || s.Sealed() != (api.Digest{}) || len(s.Sizes()) != 0 {
			t.Errorf("no ledger %d: %d, %d, %x, %x, %v", i, s.Size(), s.Width(), s.Root(), s.Sealed(), s.Sizes())
		}
		for _, b := range []api.Batch{{}, {Entries: []api.Entry{put("a", "1")}}, {First: 1, Entries: []api.Entry{{Kind: 9, Key: long}}}, {Entries: make([]api.Entry, 65)}} {
			if u, e := s.Apply(b); u != nil || e != api.ErrNone {
				t.Errorf("no ledger %d: Apply: %v, %d", i, u, e)
			}
		}
		for _, n := range []uint64{0, 1, math.MaxUint64} {
			own, e := s.Entry(n)
			r, f := s.Past(n)
			if e != api.ErrNone || f != api.ErrNone || own.Kind != 0 || own.Key != nil || r != (api.Root{}) {
				t.Errorf("no ledger %d: Entry(%d), Past: %d, %d", i, n, e, f)
			}
			p, e := s.ReceiptEntry(n)
			wantsNothing(t, "ReceiptEntry of no ledger", p, e, api.ErrNone)
			p, e = s.ReceiptSince(n)
			wantsNothing(t, "ReceiptSince of no ledger", p, e, api.ErrNone)
		}
		for _, key := range [][]byte{nil, {1}, long} {
			value, has, e := s.Get(key)
			if has {
				t.Errorf("no ledger %d: Get has %q", i, value)
			}
			wantsNothing(t, "Get of no ledger", value, e, api.ErrNone)
			p, e := s.ReceiptKey(key)
			wantsNothing(t, "ReceiptKey of no ledger", p, e, api.ErrNone)
		}
	}
}

// room answers a copy of p with spare room behind it, filled, and a check that nothing of it has changed.
func room(p []byte) ([]byte, func() bool) {
	whole := append(bytes.Clone(p), bytes.Repeat([]byte{0xee}, 40)...)
	before := bytes.Clone(whole)
	return whole[:len(p)], func() bool { return bytes.Equal(whole, before) }
}

// scrawl writes over p and its spare room.
func scrawl(p []byte) {
	for i := range p[:cap(p)] {
		p[:cap(p)][i] ^= 0xa5
	}
}

// What is handed in stays as it is, its spare room too, and is not kept.
func TestMemory_Arguments(t *testing.T) {
	for _, w := range []int{1, 32} {
		var batch []api.Entry
		var checks []func() bool
		want := []api.Entry{put("a", "one"), put("b", ""), del("a"), put("a", "two"), del("none")}
		for _, e := range want {
			key, check := room(e.Key)
			value, other := room(e.Value)
			batch = append(batch, api.Entry{Kind: e.Kind, Key: key, Value: value})
			checks = append(checks, check, other)
		}
		batch = append(batch, api.Entry{Kind: 77})
		s := made(t, w)
		u, e := s.Apply(api.Batch{Entries: batch[:5]})
		if e != api.OK {
			t.Fatalf("Apply: %d", e)
		}
		asked, check := room([]byte("a"))
		checks = append(checks, check)
		u.Get(asked)
		p, _ := u.ReceiptKey(asked)
		for _, check := range checks {
			if !check() {
				t.Fatal("what was handed in has changed")
			}
		}
		for i, e := range want {
			if !sameEntry(batch[i], e) || batch[5].Kind != 77 {
				t.Fatal("the list that was handed in has changed")
			}
		}
		scrawl(asked)
		for i, e := range batch {
			scrawl(e.Key)
			scrawl(e.Value)
			batch[i] = put("else", "else")
		}
		holds(t, u, empty(w).with(want...))
		if !bytes.Equal(p, receiptOfKey(w, want, "a")) {
			t.Error("a receipt hangs on what was handed in")
		}
	}
}

// answers asks for one of each thing and answers all bytes that came.
func answers(s *snap.Snap) [][]byte {
	var all [][]byte
	for i := range s.Size() {
		e, _ := s.Entry(i)
		p, _ := s.ReceiptEntry(i)
		value, _, _ := s.Get(e.Key)
		q, _ := s.ReceiptKey(e.Key)
		all = append(all, e.Key, e.Value, p, value, q)
	}
	for _, n := range s.Sizes() {
		p, _ := s.ReceiptSince(n)
		all = append(all, p)
	}
	return all
}

// Answers share no memory with the ledger, with earlier answers, or with one another, spare room too.
func TestMemory_Answers(t *testing.T) {
	for _, w := range []int{1, 32} {
		l := empty(w).with(put("a", "one"), put("b", "two")).with(del("a"), put("", "v"), put("a", "three")).with(put("c", ""))
		s := grow(t, made(t, w), l.entries[:2]...)
		s = grow(t, s, l.entries[2:5]...)
		s = grow(t, s, l.entries[5:]...)
		first := answers(s)
		want := answers(s)
		for i := range first {
			now := answers(s)
			scrawl(now[i])
			for j, p := range now {
				if i != j && !bytes.Equal(p, want[j]) {
					t.Fatalf("the answers %d and %d share memory", i, j)
				}
			}
			if !bytes.Equal(first[i], want[i]) {
				t.Fatalf("the answer %d shares memory with an earlier one", i)
			}
		}
		sizes := s.Sizes()
		for i := range sizes[:cap(sizes)] {
			sizes[:cap(sizes)][i] = 99
		}
		holds(t, s, l)
		u := grow(t, s, put("d", "four"))
		holds(t, u, l.with(put("d", "four")))
		holds(t, s, l)
	}
}

// One ledger is read and grown by many goroutines; each gets what it would get alone.
func TestP2_ManyAtATime(t *testing.T) {
	const w = 2
	r := rand.New(rand.NewSource(2))
	s, l := made(t, w), empty(w)
	for range 6 {
		batch := anyEntries(r, 3, 5)
		s, l = grow(t, s, batch...), l.with(batch...)
	}
	want := answers(s)
	var group sync.WaitGroup
	for at := range 12 {
		group.Go(func() {
			own, ownLedger := s, l
			for i := range 4 {
				batch := []api.Entry{put("own"+strconv.Itoa(at), strconv.Itoa(i)), del("k" + strconv.Itoa(i))}
				u, e := own.Apply(api.Batch{First: own.Size(), Entries: batch})
				if e != api.OK {
					t.Errorf("goroutine %d: Apply: %d", at, e)
					return
				}
				own, ownLedger = u, ownLedger.with(batch...)
				if own.Root() != wordsRoot(w, ownLedger.entries) || !slices.Equal(own.Sizes(), ownLedger.sizes) {
					t.Errorf("goroutine %d: the root %x", at, own.Root())
				}
				if !slices.EqualFunc(answers(s), want, bytes.Equal) {
					t.Errorf("goroutine %d: other answers", at)
				}
			}
		})
	}
	group.Wait()
	holds(t, s, l)
}

// A ledger answers the same, however often and in whatever order it is asked, and whatever other ledgers are asked.
func TestP2_AskedAgain(t *testing.T) {
	r := rand.New(rand.NewSource(22))
	batches := [][]api.Entry{anyEntries(r, 5, 4), anyEntries(r, 1, 4), anyEntries(r, 8, 4)}
	build := func() *snap.Snap {
		s := made(t, 3)
		for _, batch := range batches {
			s = grow(t, s, batch...)
		}
		return s
	}
	s, twin := build(), build()
	want := answers(twin)
	for range 3 {
		grow(t, s, put("x", "y"))
		s.Past(99)
		s.Entry(99)
		if !slices.EqualFunc(answers(s), want, bytes.Equal) || s.Root() != twin.Root() {
			t.Fatal("a ledger answers otherwise than its twin")
		}
	}
}

// Many batches, one behind the other: all older ledgers stay what they were, and their receipts under the newest root hold.
func TestP4_TrueRoots(t *testing.T) {
	r := rand.New(rand.NewSource(4))
	for _, w := range []int{1, 4, 32} {
		snaps, ledgers := []*snap.Snap{made(t, w)}, []ledger{empty(w)}
		for i := range 40 {
			batch := anyEntries(r, 1+r.Intn(6), 20)
			snaps, ledgers = append(snaps, grow(t, snaps[i], batch...)), append(ledgers, ledgers[i].with(batch...))
		}
		newest := snaps[40]
		for i, s := range snaps {
			holdsRoot(t, s, ledgers[i])
			old, e := newest.Past(s.Size())
			p, f := newest.ReceiptSince(s.Size())
			if e != api.OK || f != api.OK || old != s.Root() {
				t.Fatalf("width %d: Past(%d): %x, %d, %d", w, s.Size(), old, e, f)
			}
			if e := proof.Verify(w, api.Claim{Kind: api.ClaimSince, Root: newest.Sealed(), Old: s.Sealed()}, p); e != api.OK {
				t.Fatalf("width %d: the beginning of the size %d: %d", w, s.Size(), e)
			}
		}
		holds(t, snaps[20], ledgers[20])
	}
}

// In a long log of small batches each entry and each boundary is found.
func TestP19_6_ALongLog(t *testing.T) {
	s := made(t, 1)
	const n = 20000
	for i := range n {
		s = grow(t, s, put("k"+strconv.Itoa(i%10), strconv.Itoa(i)))
	}
	for i := range uint64(n) {
		if e, _ := s.Entry(i); string(e.Value) != strconv.FormatUint(i, 10) {
			t.Fatalf("Entry(%d): %q", i, e)
		}
		if r, e := s.Past(i); e != api.OK || r.Size != i {
			t.Fatalf("Past(%d): %d, %d", i, r.Size, e)
		}
	}
}
