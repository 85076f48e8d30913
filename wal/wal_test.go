package wal_test

import (
	"bytes"
	"fmt"
	"math"
	"math/rand"
	"slices"
	"strings"
	"sync"
	"testing"

	"notary/api"
	"notary/disk"
	"notary/entry"
	"notary/frame"
	"notary/segment"
	"notary/wal"
)

const (
	seg0 = "seg-00000000000000000000"
	seg1 = "seg-00000000000000000001"
	seg2 = "seg-00000000000000000002"
	seg3 = "seg-00000000000000000003"
	seg4 = "seg-00000000000000000004"
	seg5 = "seg-00000000000000000005"
	seg7 = "seg-00000000000000000007"
	seg8 = "seg-00000000000000000008"
	segA = "seg-18446744073709551614" // the last number but one
	segZ = "seg-18446744073709551615"
)

func put(key, value string) api.Entry {
	return api.Entry{Kind: api.Put, Key: []byte(key), Value: []byte(value)}
}

func del(key string) api.Entry { return api.Entry{Kind: api.Delete, Key: []byte(key)} }

func list(entries ...api.Entry) []api.Entry { return entries }

func batch(first uint64, entries ...api.Entry) api.Batch {
	return api.Batch{First: first, Entries: entries}
}

func sameEntry(a, b api.Entry) bool {
	return a.Kind == b.Kind && bytes.Equal(a.Key, b.Key) && bytes.Equal(a.Value, b.Value)
}

func sameBatch(a, b api.Batch) bool {
	return a.First == b.First && slices.EqualFunc(a.Entries, b.Entries, sameEntry)
}

func sameBatches(a, b []api.Batch) bool { return slices.EqualFunc(a, b, sameBatch) }

func sameFile(a, b disk.File) bool {
	return a.Name == b.Name && bytes.Equal(a.Bytes, b.Bytes) && a.Synced == b.Synced && a.Named == b.Named
}

func sameFiles(a, b []disk.File) bool { return slices.EqualFunc(a, b, sameFile) }

// made answers a disk without files.
func made(t testing.TB, sector int) *disk.Disk {
	t.Helper()
	d, e := disk.New(sector)
	if e != api.OK {
		t.Fatalf("disk.New(%d): %d", sector, e)
	}
	return d
}

// from answers a disk with these files.
func from(t testing.TB, sector int, files []disk.File) *disk.Disk {
	t.Helper()
	d, e := disk.From(sector, files)
	if e != api.OK {
		t.Fatalf("disk.From of %d files: %d", len(files), e)
	}
	return d
}

// opened answers a log on a disk that takes it.
func opened(t testing.TB, d *disk.Disk, w, limit int) (*wal.Log, []api.Batch) {
	t.Helper()
	l, batches, e := wal.Open(d, w, limit)
	if e != api.OK || l == nil || l.State() != api.OK {
		t.Fatalf("Open(%d, %d): %v, %d", w, limit, l, e)
	}
	return l, batches
}

// refused looks for an Open that answers an error, and nothing beside it.
func refused(t testing.TB, what string, d *disk.Disk, w, limit int, want api.Errno) {
	t.Helper()
	l, batches, e := wal.Open(d, w, limit)
	if l != nil || len(batches) != 0 || e != want {
		t.Errorf("%s: Open(%d, %d) = %v, %d batches, %d, want %d", what, w, limit, l, len(batches), e, want)
	}
}

// wants looks for an error.
func wants(t testing.TB, what string, got, want api.Errno) {
	t.Helper()
	if got != want {
		t.Errorf("%s: %d, want %d", what, got, want)
	}
}

// tells looks for what a log tells of itself.
func tells(t testing.TB, what string, l *wal.Log, epoch, number, next uint64, state api.Errno) {
	t.Helper()
	if l.Epoch() != epoch || l.Segment() != number || l.Next() != next || l.State() != state {
		t.Errorf("%s: epoch %d, segment %d, next %d, state %d, want %d, %d, %d, %d", what, l.Epoch(), l.Segment(), l.Next(), l.State(), epoch, number, next, state)
	}
}

// head answers the bytes of a segment's head of the width 4.
func head(number, epoch, first uint64) []byte {
	p, e := segment.EncodeHead(segment.Head{Number: number, Epoch: epoch, First: first, Width: 4})
	if e != api.OK {
		panic(e)
	}
	return p
}

// framed answers the bytes of a batch's frame.
func framed(first uint64, entries ...api.Entry) []byte {
	p, e := segment.EncodeBatch(batch(first, entries...))
	if e != api.OK {
		panic(e)
	}
	return p
}

// durable answers a file all of which is durable.
func durable(name string, pieces ...[]byte) disk.File {
	p := slices.Concat(pieces...)
	return disk.File{Name: name, Bytes: p, Synced: len(p), Named: true}
}

// loose answers a file nothing of which is durable.
func loose(name string, pieces ...[]byte) disk.File {
	return disk.File{Name: name, Bytes: slices.Concat(pieces...)}
}

// op is an operation that a log is to do.
type op struct {
	kind byte // c Create, a Append, s Sync, n SyncNames
	name string
	p    []byte
}

func do(d *disk.Disk, o op) api.Errno {
	switch o.kind {
	case 'c':
		return d.Create(o.name)
	case 'a':
		return d.Append(o.name, o.p)
	case 's':
		return d.Sync(o.name)
	}
	return d.SyncNames()
}

// doAll does the operations up to the first one that isn't OK.
func doAll(d *disk.Disk, ops []op) api.Errno {
	for _, o := range ops {
		if e := do(d, o); e != api.OK {
			return e
		}
	}
	return api.OK
}

// begun answers the operations by which a segment is begun.
func begun(name string, p []byte) []op {
	return []op{{'c', name, nil}, {'a', name, p}, {'s', name, nil}, {'n', "", nil}}
}

// alike looks whether two disks have the same files, count and power.
func alike(t testing.TB, what string, got, want *disk.Disk) {
	t.Helper()
	if got.Ops() != want.Ops() || got.Off() != want.Off() {
		t.Errorf("%s: %d operations, off %v, want %d, %v", what, got.Ops(), got.Off(), want.Ops(), want.Off())
	}
	if !sameFiles(got.Files(), want.Files()) {
		t.Errorf("%s: the files are\n%v, want\n%v", what, got.Files(), want.Files())
	}
}

func TestP9_1_Arguments(t *testing.T) {
	for _, c := range [][2]int{
		{0, 100}, {33, 100}, {-1, 100}, {math.MinInt, 100}, {math.MaxInt, 100}, {256 + 4, 100}, {1<<32 + 4, 100},
		{4, 0}, {4, -1}, {4, api.MaxLimit + 1}, {4, math.MinInt}, {4, math.MaxInt}, {4, 1<<32 + 1}, {0, 0}, {33, api.MaxLimit + 1},
	} {
		d := made(t, 512)
		refused(t, "an argument", d, c[0], c[1], api.ErrArg)
		if d.Ops() != 0 || len(d.Names()) != 0 {
			t.Errorf("Open(%v) has done %d operations", c, d.Ops())
		}
		refused(t, "and a nil disk", nil, c[0], c[1], api.ErrArg)
		refused(t, "and files that do not go together", from(t, 8, []disk.File{durable(segZ)}), c[0], c[1], api.ErrArg)
		d.Cut()
		refused(t, "and no power", d, c[0], c[1], api.ErrArg)
	}
	for _, c := range [][2]int{{1, 1}, {1, api.MaxLimit}, {32, 1}, {32, api.MaxLimit}} {
		l, _ := opened(t, made(t, 512), c[0], c[1])
		tells(t, "at the limits", l, 1, 1, 0, api.OK)
	}
	refused(t, "a nil disk", nil, 4, 100, api.ErrNone)
}

func TestP9_1_PowerOff(t *testing.T) {
	for name, files := range map[string][]disk.File{
		"no files":                   nil,
		"a segment":                  {durable(seg1, head(1, 1, 0))},
		"files that don't go":        {durable(seg1, head(2, 1, 0))},
		"a file of the last number":  {durable(segZ)},
		"a file with another's name": {durable("note")},
	} {
		d := from(t, 512, files)
		d.Cut()
		refused(t, name, d, 4, 100, api.ErrCrash)
		if d.Ops() != 0 || !sameFiles(d.Files(), files) {
			t.Errorf("%s: %d operations with the power off", name, d.Ops())
		}
	}
}

func TestP9_1_Corrupt(t *testing.T) {
	one := framed(0, put("a", "x"), del("b"))
	wide := func(w int) []byte {
		p, _ := segment.EncodeHead(segment.Head{Number: 1, Epoch: 1, First: 0, Width: w})
		return p
	}
	good := durable(seg1, head(1, 3, 0), one)
	for _, c := range []struct {
		name  string
		files []disk.File
	}{
		{"the first one begins with 3", []disk.File{durable(seg1, head(1, 1, 3))}},
		{"the first one begins with 1", []disk.File{durable(seg1, head(1, 1, 1), framed(1, put("a", "x")))}},
		{"the first one begins with 2^64 - 1", []disk.File{durable(seg1, head(1, 1, math.MaxUint64))}},
		{"the width 3", []disk.File{durable(seg1, wide(3))}},
		{"the width 5", []disk.File{durable(seg1, wide(5))}},
		{"the width 32", []disk.File{durable(seg1, wide(32), one)}},
		{"another number", []disk.File{durable(seg1, head(2, 1, 0))}},
		{"the number 0 for 1", []disk.File{durable(seg1, head(0, 1, 0))}},
		{"the number 1 for 0", []disk.File{durable(seg0, head(1, 1, 0))}},
		{"two names of one segment", []disk.File{durable(seg1, head(1, 1, 0)), durable(seg2, head(1, 1, 0))}},
		{"an epoch before", []disk.File{good, durable(seg2, head(2, 2, 2))}},
		{"the epoch 0 behind", []disk.File{good, durable(seg2, head(2, 0, 2))}},
		{"an epoch before, later", []disk.File{good, durable(seg2, head(2, 5, 2)), durable(seg3, head(3, 4, 2))}},
		{"an epoch before, behind a file that is none", []disk.File{good, loose(seg2), durable(seg3, head(3, 2, 2))}},
		{"a First too small", []disk.File{good, durable(seg2, head(2, 3, 1))}},
		{"a First of 0", []disk.File{good, durable(seg2, head(2, 3, 0))}},
		{"a First too great", []disk.File{good, durable(seg2, head(2, 3, 3))}},
		{"the count of batches", []disk.File{durable(seg1, head(1, 3, 0), one, framed(2, del("c"))), durable(seg2, head(2, 3, 2))}},
		{"a First that counts a torn batch", []disk.File{durable(seg1, head(1, 3, 0), one, framed(2, del("c"))[:20]), durable(seg2, head(2, 3, 3))}},
		{"the entries of the segment ahead alone", []disk.File{good, durable(seg2, head(2, 3, 2), framed(2, del("c"))), durable(seg3, head(3, 3, 1))}},
		{"a segment is missing", []disk.File{good, durable(seg3, head(3, 3, 3), framed(3, del("c")))}},
		{"the first segment is missing", []disk.File{durable(seg2, head(2, 3, 2), framed(2, del("c")))}},
		{"the epoch 2^64 - 1", []disk.File{durable(seg1, head(1, math.MaxUint64, 0))}},
		{"the epoch 2^64 - 1 behind", []disk.File{good, durable(seg2, head(2, math.MaxUint64, 2))}},
		{"the last number, no bytes", []disk.File{durable(segZ)}},
		{"the last number, noughts", []disk.File{good, durable(segZ, make([]byte, 60))}},
		{"the last number, a segment", []disk.File{durable(segZ, head(math.MaxUint64, 1, 0))}},
		{"the last number behind a good one", []disk.File{good, durable(segZ, head(math.MaxUint64, 3, 2))}},
	} {
		for _, plan := range []int{0, 1} {
			d := from(t, 512, c.files)
			d.Plan([]disk.Fault{{At: 1}}, plan)
			refused(t, c.name, d, 4, 100, api.ErrCorrupt)
			if d.Ops() != 0 || d.Off() || !sameFiles(d.Files(), c.files) {
				t.Errorf("%s: %d operations were done, off %v", c.name, d.Ops(), d.Off())
			}
		}
	}
	// a bad one among good ones, ahead of them and behind them
	bad := durable(seg2, head(2, 3, 9))
	for _, files := range [][]disk.File{
		{bad, durable(seg3, head(3, 4, 0))},
		{good, bad, durable(seg3, head(3, 4, 2))},
		{durable(seg0, head(0, 1, 0)), good, bad},
	} {
		d := from(t, 512, files)
		refused(t, "a bad one among good ones", d, 4, 100, api.ErrCorrupt)
		if d.Ops() != 0 {
			t.Errorf("%d operations beside ErrCorrupt", d.Ops())
		}
	}
}

// TestP9_1_GoTogether: what Open reads and goes on from; files that are no segments are let be as they stand.
func TestP9_1_GoTogether(t *testing.T) {
	ax, by, c := put("a", "x"), put("b", "y"), del("c")
	one, two, three := batch(0, ax, by), batch(2, c), batch(3, by)
	p1, p2, p3 := framed(0, ax, by), framed(2, c), framed(3, by)
	for _, c := range []struct {
		name    string
		files   []disk.File
		synced  []string
		batches []api.Batch
		made    string
		number  uint64
		epoch   uint64
		first   uint64
	}{
		{"nothing", nil, nil, nil, seg1, 1, 1, 0},
		{"a file of no bytes", []disk.File{loose(seg7)}, nil, nil, seg8, 8, 1, 0},
		{"a segment without batches", []disk.File{loose(seg1, head(1, 1, 0))}, []string{seg1}, nil, seg2, 2, 2, 0},
		{"one batch", []disk.File{loose(seg1, head(1, 1, 0), p1)}, []string{seg1}, []api.Batch{one}, seg2, 2, 2, 2},
		{"two batches", []disk.File{loose(seg1, head(1, 1, 0), p1, p2)}, []string{seg1}, []api.Batch{one, two}, seg2, 2, 2, 3},
		{"two segments of one epoch", []disk.File{loose(seg1, head(1, 1, 0), p1), loose(seg2, head(2, 1, 2), p2)}, []string{seg1, seg2}, []api.Batch{one, two}, seg3, 3, 2, 3},
		{"two epochs, and one left out", []disk.File{loose(seg1, head(1, 1, 0), p1), loose(seg2, head(2, 4, 2), p2)}, []string{seg1, seg2}, []api.Batch{one, two}, seg3, 3, 5, 3},
		{"empty ones at the beginning, between and at the end", []disk.File{loose(seg0, head(0, 1, 0)), loose(seg1, head(1, 1, 0), p1), loose(seg2, head(2, 2, 2)), loose(seg3, head(3, 3, 2), p2, p3), loose(seg4, head(4, 4, 4))}, []string{seg0, seg1, seg2, seg3, seg4}, []api.Batch{one, two, three}, seg5, 5, 5, 4},
		{"numbers left out", []disk.File{loose(seg2, head(2, 1, 0), p1), loose(seg7, head(7, 1, 2), p2)}, []string{seg2, seg7}, []api.Batch{one, two}, seg8, 8, 2, 3},
		{"the number 0 and the epoch 0", []disk.File{loose(seg0, head(0, 0, 0), p1)}, []string{seg0}, []api.Batch{one}, seg1, 1, 1, 2},
		{"the number 0, no bytes", []disk.File{loose(seg0)}, nil, nil, seg1, 1, 1, 0},
		{"a torn batch", []disk.File{loose(seg1, head(1, 1, 0), p1, p2[:len(p2)-1])}, []string{seg1}, []api.Batch{one}, seg2, 2, 2, 2},
		{"a torn batch, and a segment behind it", []disk.File{loose(seg1, head(1, 1, 0), p1, p2[:5]), loose(seg2, head(2, 2, 2), p2)}, []string{seg1, seg2}, []api.Batch{one, two}, seg3, 3, 3, 3},
		{"noughts and batches behind the last batch", []disk.File{loose(seg1, head(1, 1, 0), p1, make([]byte, 9), p2, p3)}, []string{seg1}, []api.Batch{one}, seg2, 2, 2, 2},
		{"a head behind the last batch", []disk.File{loose(seg1, head(1, 1, 0), p1, head(9, 9, 9))}, []string{seg1}, []api.Batch{one}, seg2, 2, 2, 2},
		{"a batch that stands there twice", []disk.File{loose(seg1, head(1, 1, 0), p1, p1)}, []string{seg1}, []api.Batch{one}, seg2, 2, 2, 2},
		{"a batch that leaves a gap", []disk.File{loose(seg1, head(1, 1, 0), p1, p3)}, []string{seg1}, []api.Batch{one}, seg2, 2, 2, 2},
		{"a torn head at the end", []disk.File{loose(seg1, head(1, 1, 0), p1), loose(seg2, head(2, 1, 2)[:47])}, []string{seg1}, []api.Batch{one}, seg3, 3, 2, 2},
		{"a torn head between", []disk.File{loose(seg1, head(1, 1, 0), p1), loose(seg2, head(2, 9, 9)[:47], p2), loose(seg3, head(3, 2, 2), p2)}, []string{seg1, seg3}, []api.Batch{one, two}, seg4, 4, 3, 3},
		{"noughts at the beginning", []disk.File{loose(seg1, make([]byte, 512)), loose(seg2, head(2, 2, 0), p1)}, []string{seg2}, []api.Batch{one}, seg3, 3, 3, 2},
		{"a batch without a head", []disk.File{loose(seg1, p1)}, nil, nil, seg2, 2, 1, 0},
		{"a byte ahead of the head", []disk.File{loose(seg1, []byte{0}, head(1, 1, 0), p1)}, nil, nil, seg2, 2, 1, 0},
		{"other names", []disk.File{loose("a", head(1, 1, 0)), loose("seg-0000000000000000001", head(9, 9, 9)), loose(seg1, head(1, 1, 0), p1), loose("seg-000000000000000000010", head(9, 9, 9)), loose("seg-18446744073709551616"), loose("seg-9"), loose("seg-99999999999999999999"), loose("zz", p1)}, []string{seg1}, []api.Batch{one}, seg2, 2, 2, 2},
		{"the last number but one, no bytes", []disk.File{loose(segA)}, nil, nil, segZ, math.MaxUint64, 1, 0},
		{"the last number but one", []disk.File{loose(segA, head(math.MaxUint64-1, 5, 0), p1)}, []string{segA}, []api.Batch{one}, segZ, math.MaxUint64, 6, 2},
		{"the last epoch but one", []disk.File{loose(seg1, head(1, math.MaxUint64-1, 0), p1)}, []string{seg1}, []api.Batch{one}, seg2, 2, math.MaxUint64, 2},
		{"durable ones", []disk.File{durable(seg1, head(1, 1, 0), p1), durable(seg2, head(2, 2, 2), p2)}, []string{seg1, seg2}, []api.Batch{one, two}, seg3, 3, 3, 3},
	} {
		slices.SortFunc(c.files, func(a, b disk.File) int { return strings.Compare(a.Name, b.Name) })
		d, twin := from(t, 512, c.files), from(t, 512, c.files)
		l, batches := opened(t, d, 4, 100)
		tells(t, c.name, l, c.epoch, c.number, c.first, api.OK)
		if !sameBatches(batches, c.batches) {
			t.Errorf("%s: the batches are %v, want %v", c.name, batches, c.batches)
		}
		var ops []op
		for _, name := range c.synced {
			ops = append(ops, op{'s', name, nil})
		}
		wants(t, c.name, doAll(twin, append(ops, begun(c.made, head(c.number, c.epoch, c.first))...)), api.OK)
		alike(t, c.name, d, twin)
	}
}

// TestP9_1_BeyondTheLastNumbers: where the last number or the last epoch is taken, there is no Open more.
func TestP9_1_BeyondTheLastNumbers(t *testing.T) {
	for _, file := range []disk.File{durable(segA), durable(seg1, head(1, math.MaxUint64-1, 0))} {
		d := from(t, 512, []disk.File{file})
		l, _ := opened(t, d, 4, 100)
		wants(t, "Append", l.Append(list(put("a", "x"))), api.OK)
		wants(t, "Sync", l.Sync(), api.OK)
		ops := d.Ops()
		refused(t, "behind the last one", d, 4, 100, api.ErrCorrupt)
		if d.Ops() != ops {
			t.Errorf("%s: operations beside ErrCorrupt", file.Name)
		}
	}
}

// eachEnd runs a call with each of its operations refused, and with the power going off at each, and holds what it leaves against the first operations done by hand. What ready answers is the call, on the disk that it was handed.
func eachEnd(t *testing.T, what string, files []disk.File, ready func(*disk.Disk) func() api.Errno, ops []op) {
	t.Helper()
	for at := 0; at <= len(ops)+1; at++ {
		for _, keep := range []int{-1, 0, 1, 30, 47, 48, 1000} {
			for _, crash := range []bool{false, true} {
				name := fmt.Sprintf("%s, operation %d, keep %d, crash %v", what, at, keep, crash)
				faults, off := []disk.Fault{{At: at, Keep: keep}}, 0
				if crash {
					faults, off = nil, at
				}
				d, twin := from(t, 64, files), from(t, 64, files)
				call := ready(d)
				ready(twin)
				d.Plan(faults, off)
				twin.Plan(faults, off)
				alike(t, name+", ahead of it", d, twin)
				wants(t, name, call(), doAll(twin, ops))
				alike(t, name, d, twin)
			}
		}
	}
}

func TestP9_2_EachOperation(t *testing.T) {
	p1, p2 := framed(0, put("a", "x"), put("b", "y")), framed(2, del("c"))
	open := func(d *disk.Disk) func() api.Errno {
		return func() api.Errno {
			l, batches, e := wal.Open(d, 4, 100)
			if e != api.OK && (l != nil || len(batches) != 0) {
				t.Errorf("an answer beside %d: %v, %d batches", e, l, len(batches))
			}
			if e == api.OK && (l == nil || l.State() != api.OK) {
				t.Errorf("no log beside OK")
			}
			return e
		}
	}
	eachEnd(t, "a new disk", nil, open, begun(seg1, head(1, 1, 0)))
	files := []disk.File{loose("note", p1), loose(seg1, head(1, 1, 0), p1), loose(seg2), durable(seg3, head(3, 1, 2)), loose(seg4, head(4, 2, 2), p2, p2[:7]), loose("zz")}
	ops := append([]op{{'s', seg1, nil}, {'s', seg3, nil}, {'s', seg4, nil}}, begun(seg5, head(5, 3, 3))...)
	eachEnd(t, "segments", files, open, ops)
}

// TestP9_2_AfterARefusal: an Open that was refused may have left a file; the next one goes on behind it.
func TestP9_2_AfterARefusal(t *testing.T) {
	for at := 1; at <= 4; at++ {
		for _, keep := range []int{0, 20, 47, 48} {
			d := made(t, 512)
			d.Plan([]disk.Fault{{At: at, Keep: keep}}, 0)
			refused(t, fmt.Sprint("operation ", at), d, 4, 100, api.ErrIO)
			d.Plan(nil, 0)
			l, batches := opened(t, d, 4, 100)
			number, epoch, ops := uint64(2), uint64(2), 5
			if at == 1 { // no file was left
				number, epoch, ops = 1, 1, 4
			} else if at == 2 && keep < 48 { // a file that is no segment
				epoch, ops = 1, 4
			}
			tells(t, fmt.Sprintf("behind the refused operation %d, keep %d", at, keep), l, epoch, number, 0, api.OK)
			if len(batches) != 0 || d.Ops() != ops {
				t.Errorf("behind the refused operation %d, keep %d: %d batches, %d operations", at, keep, len(batches), d.Ops())
			}
		}
	}
}

func TestP9_3_Append(t *testing.T) {
	d, twin := made(t, 512), made(t, 512)
	l, _ := opened(t, d, 4, api.MaxLimit)
	doAll(twin, begun(seg1, head(1, 1, 0)))
	greatest := slices.Repeat(list(api.Entry{Kind: api.Put, Key: make([]byte, 64), Value: make([]byte, 256)}), 64)
	next := uint64(0)
	var all []api.Batch
	for i, entries := range [][]api.Entry{list(put("a", "x")), list(put("", "")), list(del("")), list(put("a", "x"), del("a")), greatest, list(del("z"))} {
		wants(t, fmt.Sprint("batch ", i), l.Append(entries), api.OK)
		wants(t, "by hand", do(twin, op{'a', seg1, framed(next, entries...)}), api.OK)
		alike(t, fmt.Sprint("batch ", i), d, twin)
		all = append(all, batch(next, entries...))
		next += uint64(len(entries))
		tells(t, fmt.Sprint("batch ", i), l, 1, 1, next, api.OK)
	}
	l, batches := opened(t, d, 4, 1)
	if !sameBatches(batches, all) {
		t.Errorf("the batches are %v, want %v", batches, all)
	}
	tells(t, "opened again", l, 2, 2, next, api.OK)
}

// wrongBatches: batches that can't be, and their errors.
func wrongBatches() []struct {
	name    string
	entries []api.Entry
	want    api.Errno
} {
	long, broad := api.Entry{Kind: api.Put, Key: make([]byte, 65)}, api.Entry{Kind: api.Put, Value: make([]byte, 257)}
	return []struct {
		name    string
		entries []api.Entry
		want    api.Errno
	}{
		{"nil", nil, api.ErrForm},
		{"none", []api.Entry{}, api.ErrForm},
		{"no kind", list(api.Entry{}), api.ErrForm},
		{"the kind 3", list(put("a", "x"), api.Entry{Kind: 3}), api.ErrForm},
		{"a Delete with a value", list(api.Entry{Kind: api.Delete, Value: []byte("v")}), api.ErrForm},
		{"a long key", list(long), api.ErrLong},
		{"a long value", list(put("a", "x"), broad), api.ErrLong},
		{"no kind ahead of a long key", list(api.Entry{}, long), api.ErrLong},
		{"65 entries", slices.Repeat(list(put("a", "x")), 65), api.ErrLong},
		{"65 entries of no kind", make([]api.Entry, 65), api.ErrLong},
	}
}

func TestP9_3_WrongBatches(t *testing.T) {
	for _, limit := range []int{1, 1000} {
		d := made(t, 512)
		l, _ := opened(t, d, 4, limit)
		wants(t, "a good one", l.Append(list(put("a", "x"))), api.OK)
		files := d.Files()
		d.Plan([]disk.Fault{{At: 1}}, 0)
		for _, c := range wrongBatches() {
			if _, e := entry.EncodeBatch(batch(1, c.entries...)); e != c.want {
				t.Errorf("%s: the layer below answers %d", c.name, e)
			}
			wants(t, c.name, l.Append(c.entries), c.want)
			tells(t, c.name, l, 1, 1, 1, api.OK)
			if d.Ops() != 0 || !sameFiles(d.Files(), files) {
				t.Errorf("%s: %d operations were done", c.name, d.Ops())
			}
		}
		d.Plan(nil, 0)
		wants(t, "a good one behind them", l.Append(list(put("b", "y"))), api.OK)
		d.Cut()
		for _, c := range wrongBatches() { // the power is off, but the log has not met it yet
			wants(t, c.name, l.Append(c.entries), c.want)
			tells(t, c.name, l, 1, l.Segment(), 2, api.OK)
		}
	}
}

func TestP9_3_Failed(t *testing.T) {
	for _, c := range []struct {
		name         string
		faults       []disk.Fault
		crash        int
		state, later api.Errno
	}{
		{"a refusal", []disk.Fault{{At: 1}}, 0, api.ErrIO, api.ErrFailed},
		{"a refusal that has written", []disk.Fault{{At: 1, Keep: 1000}}, 0, api.ErrIO, api.ErrFailed},
		{"a cut", nil, 1, api.ErrCrash, api.ErrCrash},
	} {
		for _, way := range []string{"append", "sync"} {
			d := made(t, 512)
			l, _ := opened(t, d, 4, 1)
			wants(t, "ahead of it", l.Append(list(put("a", "x"))), api.OK)
			d.Plan(c.faults, c.crash)
			if way == "append" {
				wants(t, c.name, l.Append(list(put("b", "y"))), c.state)
			} else {
				wants(t, c.name, l.Sync(), c.state)
			}
			tells(t, c.name, l, 1, 1, 1, c.state)
			d.Plan(nil, 0)
			files := d.Files()
			for range 2 {
				wants(t, c.name+": Append", l.Append(list(put("c", "z"))), c.later)
				wants(t, c.name+": Sync", l.Sync(), c.later)
				for _, w := range wrongBatches() {
					wants(t, c.name+": "+w.name, l.Append(w.entries), w.want)
				}
				tells(t, c.name, l, 1, 1, 1, c.state)
				d.Cut() // what a log has failed by stays, whatever comes behind
			}
			if d.Ops() != 0 || !sameFiles(d.Files(), files) {
				t.Errorf("%s, %s: a failed log has done %d operations", c.name, way, d.Ops())
			}
		}
	}
}

// TestP9_3_PowerOffBetween: a cut that came between two calls is met by the next one.
func TestP9_3_PowerOffBetween(t *testing.T) {
	for _, limit := range []int{1, 1000} {
		for _, way := range []string{"append", "sync"} {
			d := made(t, 512)
			l, _ := opened(t, d, 4, limit)
			wants(t, "ahead of it", l.Append(list(put("a", "x"))), api.OK)
			d.Cut()
			tells(t, "not met yet", l, 1, 1, 1, api.OK)
			if way == "append" {
				wants(t, way, l.Append(list(put("b", "y"))), api.ErrCrash)
			} else {
				wants(t, way, l.Sync(), api.ErrCrash)
			}
			tells(t, "met", l, 1, 1, 1, api.ErrCrash)
			wants(t, "later Append", l.Append(list(put("b", "y"))), api.ErrCrash)
			wants(t, "later Sync", l.Sync(), api.ErrCrash)
		}
	}
}

// TestP9_3_Limit: the segment is left at the first Append that finds a batch in it and at least limit bytes.
func TestP9_3_Limit(t *testing.T) {
	entries := list(put("key", "value"))
	size := len(framed(0, entries...))
	for count := 1; count <= 4; count++ {
		bytes := 48 + count*size
		for limit, rotates := range map[int]bool{bytes - 1: true, bytes: true, bytes + 1: false, bytes + size: false} {
			if bytes-size >= limit { // it would be left a batch earlier
				continue
			}
			d := made(t, 512)
			l, _ := opened(t, d, 4, limit)
			for i := range count {
				wants(t, fmt.Sprint("batch ", i), l.Append(entries), api.OK)
			}
			tells(t, fmt.Sprintf("%d batches, the limit %d", count, limit), l, 1, 1, uint64(count), api.OK)
			ops, number := d.Ops()+1, uint64(1)
			if rotates {
				ops, number = d.Ops()+6, 2
			}
			wants(t, "one more", l.Append(entries), api.OK)
			tells(t, fmt.Sprintf("%d batches and one more, the limit %d", count, limit), l, 1, number, uint64(count+1), api.OK)
			if d.Ops() != ops {
				t.Errorf("%d batches, the limit %d: %d operations, want %d", count, limit, d.Ops(), ops)
			}
		}
	}
}

// TestP9_3_LimitBelowTheHead: a segment without a batch is never left, however small the limit is.
func TestP9_3_LimitBelowTheHead(t *testing.T) {
	for _, limit := range []int{1, 47, 48, 49} {
		d := made(t, 512)
		for epoch := uint64(1); epoch <= 3; epoch++ {
			l, _ := opened(t, d, 4, limit)
			number, ops := l.Segment(), d.Ops()
			wants(t, "the first one", l.Append(list(put("a", "x"))), api.OK)
			if d.Ops() != ops+1 || l.Segment() != number {
				t.Errorf("the limit %d: the first batch took %d operations", limit, d.Ops()-ops)
			}
			for i := uint64(1); i <= 3; i++ {
				wants(t, "a later one", l.Append(list(put("a", "x"))), api.OK)
				if d.Ops() != ops+1+6*int(i) || l.Segment() != number+i {
					t.Errorf("the limit %d: batch %d: %d operations, segment %d", limit, i, d.Ops()-ops, l.Segment())
				}
			}
			tells(t, "behind them", l, epoch, number+3, 4*epoch, api.OK)
		}
	}
}

// TestP9_3_LimitCounts: the bytes are those of the segment that is written, and of what was laid down alone.
func TestP9_3_LimitCounts(t *testing.T) {
	greatest := slices.Repeat(list(api.Entry{Kind: api.Put, Key: make([]byte, 64), Value: make([]byte, 256)}), 64)
	d := made(t, 4096)
	l, _ := opened(t, d, 4, api.MaxLimit)
	bytes, number, turns := 48, uint64(1), 0
	for turns < 2 {
		first := l.Next()
		if bytes >= api.MaxLimit {
			bytes, number, turns = 48, number+1, turns+1
		}
		wants(t, "Append", l.Append(greatest), api.OK)
		bytes += len(framed(first, greatest...))
		if l.Segment() != number {
			t.Fatalf("at %d bytes the segment is %d, want %d", bytes, l.Segment(), number)
		}
	}
	for _, f := range d.Files()[:2] {
		if len(f.Bytes) < api.MaxLimit || len(f.Bytes) > api.MaxLimit+21000 {
			t.Errorf("%s has %d bytes", f.Name, len(f.Bytes))
		}
	}
}

func TestP9_3_EachOperation(t *testing.T) {
	a, b := list(put("a", "x")), list(put("b", "y"), del("a"))
	for _, c := range []struct {
		limit int
		ops   []op
	}{
		{1000, []op{{'a', seg1, framed(1, b...)}}},
		{1, slices.Concat([]op{{'s', seg1, nil}}, begun(seg2, head(2, 1, 1)), []op{{'a', seg2, framed(1, b...)}})},
	} {
		eachEnd(t, fmt.Sprint("the limit ", c.limit), nil, func(d *disk.Disk) func() api.Errno {
			l, _ := opened(t, d, 4, c.limit)
			wants(t, "ahead of it", l.Append(a), api.OK)
			return func() api.Errno {
				e := l.Append(b)
				next, later := uint64(1), map[api.Errno]api.Errno{api.ErrIO: api.ErrFailed, api.ErrCrash: api.ErrCrash}
				if e == api.OK {
					next = 3
				} else {
					wants(t, "a later Append", l.Append(a), later[e])
					wants(t, "a later Sync", l.Sync(), later[e])
				}
				if l.Next() != next || l.State() != e || l.Epoch() != 1 || l.Segment() < 1 || l.Segment() > 2 {
					t.Errorf("behind %d: epoch %d, segment %d, next %d, state %d", e, l.Epoch(), l.Segment(), l.Next(), l.State())
				}
				return e
			}
		}, c.ops)
	}
}

// TestP9_3_LaterSegments: a rotation of a later epoch and of a later number, with what stands ahead of it.
func TestP9_3_LaterSegments(t *testing.T) {
	files := []disk.File{durable(seg2, head(2, 6, 0), framed(0, put("a", "x"), del("a"))), loose(seg7)}
	ops := slices.Concat([]op{{'s', seg8, nil}}, begun("seg-00000000000000000009", head(9, 7, 3)), []op{{'a', "seg-00000000000000000009", framed(3, del("c"))}})
	eachEnd(t, "a later epoch", files, func(d *disk.Disk) func() api.Errno {
		l, _ := opened(t, d, 4, 49)
		wants(t, "ahead of it", l.Append(list(put("b", "y"))), api.OK)
		return func() api.Errno { return l.Append(list(del("c"))) }
	}, ops)
}

// TestP9_3_ANameInTheWay: a file that another hand made where the next segment is to stand; the first operation that isn't OK decides here too.
func TestP9_3_ANameInTheWay(t *testing.T) {
	eachEnd(t, "a name in the way", nil, func(d *disk.Disk) func() api.Errno {
		l, _ := opened(t, d, 4, 1)
		wants(t, "ahead of it", l.Append(list(put("a", "x"))), api.OK)
		wants(t, "another hand", d.Create(seg2), api.OK)
		return func() api.Errno {
			e := l.Append(list(put("b", "y")))
			tells(t, "a name in the way", l, 1, 1, 1, e)
			if e == api.OK || l.Append(list(put("b", "y"))) == api.OK || l.Sync() == api.OK {
				t.Errorf("a log that has failed with %d goes on", e)
			}
			return e
		}
	}, append([]op{{'s', seg1, nil}}, begun(seg2, head(2, 1, 1))...))
}

// TestP9_3_TheLastSegment: behind the number 2^64 - 1 there is none, and ErrIO stands for the Create, behind the Sync.
func TestP9_3_TheLastSegment(t *testing.T) {
	for _, c := range []struct {
		name         string
		faults       []disk.Fault
		crash        int
		state, later api.Errno
		synced       bool
	}{
		{"no plan", nil, 0, api.ErrIO, api.ErrFailed, true},
		{"the Sync refused", []disk.Fault{{At: 1}}, 0, api.ErrIO, api.ErrFailed, false},
		{"the Create would be refused", []disk.Fault{{At: 2}}, 0, api.ErrIO, api.ErrFailed, true},
		{"a cut at the Sync", nil, 1, api.ErrCrash, api.ErrCrash, false},
		{"a cut at the Create, which is none", nil, 2, api.ErrIO, api.ErrFailed, true},
	} {
		d := from(t, 512, []disk.File{durable(segA)})
		l, _ := opened(t, d, 4, 100)
		want := head(math.MaxUint64, 1, 0)
		for i := range uint64(3) { // they reach the limit together: 48 bytes and three times 25
			want = append(want, framed(i, put("a", "x"))...)
			wants(t, "ahead of it", l.Append(list(put("a", "x"))), api.OK)
			tells(t, "ahead of it", l, 1, math.MaxUint64, i+1, api.OK)
		}
		d.Plan(c.faults, c.crash)
		wants(t, c.name, l.Append(list(put("b", "y"))), c.state)
		tells(t, c.name, l, 1, math.MaxUint64, 3, c.state)
		wants(t, c.name+": Append", l.Append(list(put("b", "y"))), c.later)
		wants(t, c.name+": Sync", l.Sync(), c.later)
		last := durable(segZ, want)
		if !c.synced {
			last.Synced = 48
		}
		if d.Ops() != 1 || d.Off() != (c.state == api.ErrCrash) || !sameFiles(d.Files(), []disk.File{durable(segA), last}) {
			t.Errorf("%s: %d operations, off %v, the files %v", c.name, d.Ops(), d.Off(), d.Files())
		}
	}
}

func TestP9_4_Sync(t *testing.T) {
	d := made(t, 512)
	l, _ := opened(t, d, 4, 80)
	synced := func(what string, name string, ops int) {
		t.Helper()
		files := d.Files()
		last := files[len(files)-1]
		if last.Name != name || last.Synced != len(last.Bytes) || d.Ops() != ops {
			t.Errorf("%s: %s with %d of %d bytes durable, %d operations, want %s, %d", what, last.Name, last.Synced, len(last.Bytes), d.Ops(), name, ops)
		}
	}
	for i := range 3 { // also where nothing was appended
		wants(t, "of nothing", l.Sync(), api.OK)
		synced("of nothing", seg1, 5+i)
	}
	wants(t, "Append", l.Append(list(put("a", "x"))), api.OK)
	if f := d.Files()[0]; f.Synced != 48 || len(f.Bytes) <= 48 {
		t.Errorf("an Append has made itself durable: %d of %d bytes", f.Synced, len(f.Bytes))
	}
	for i := range 2 {
		wants(t, "of a batch", l.Sync(), api.OK)
		synced("of a batch", seg1, 9+i)
	}
	for range 3 { // 48 bytes and twice 25 are beyond the limit: the last two stand in the next segment
		wants(t, "Append", l.Append(list(put("a", "x"))), api.OK)
	}
	ops := d.Ops()
	wants(t, "of the next segment", l.Sync(), api.OK)
	synced("of the next segment", seg2, ops+1)
	tells(t, "behind them", l, 1, 2, 4, api.OK)
}

func TestP9_4_EachOperation(t *testing.T) {
	for _, appended := range []int{0, 1} {
		eachEnd(t, fmt.Sprint("Sync, batches: ", appended), nil, func(d *disk.Disk) func() api.Errno {
			l, _ := opened(t, d, 4, 1)
			for range appended {
				wants(t, "ahead of it", l.Append(list(put("a", "x"))), api.OK)
			}
			return func() api.Errno {
				e := l.Sync()
				tells(t, "behind it", l, 1, 1, uint64(appended), e)
				if e != api.OK {
					later := map[api.Errno]api.Errno{api.ErrIO: api.ErrFailed, api.ErrCrash: api.ErrCrash}[e]
					wants(t, "a later Sync", l.Sync(), later)
					wants(t, "a later Append", l.Append(list(put("a", "x"))), later)
					tells(t, "behind them", l, 1, 1, uint64(appended), e)
				}
				return e
			}
		}, []op{{'s', seg1, nil}})
	}
}

func TestP9_5_NoLog(t *testing.T) {
	var l *wal.Log
	tells(t, "a nil log", l, 0, 0, 0, api.ErrNone)
	wants(t, "Sync", l.Sync(), api.ErrNone)
	wants(t, "Append", l.Append(list(put("a", "x"))), api.ErrNone)
	for _, c := range wrongBatches() {
		wants(t, c.name, l.Append(c.entries), api.ErrNone)
	}
}

func TestP9_5_TheyChangeNothing(t *testing.T) {
	d := made(t, 512)
	l, _ := opened(t, d, 4, 1)
	wants(t, "Append", l.Append(list(put("a", "x"))), api.OK)
	files := d.Files()
	d.Plan([]disk.Fault{{At: 1}}, 2)
	for range 5 {
		tells(t, "asked often", l, 1, 1, 1, api.OK)
	}
	if d.Ops() != 0 || !sameFiles(d.Files(), files) {
		t.Errorf("asking has done %d operations", d.Ops())
	}
	d.Cut()
	tells(t, "with the power off", l, 1, 1, 1, api.OK)
}

func TestP9_Examples(t *testing.T) {
	d := made(t, 512)
	l, batches := opened(t, d, 4, 100)
	tells(t, "example 1", l, 1, 1, 0, api.OK)
	if len(batches) != 0 || d.Ops() != 4 || !slices.Equal(d.Names(), []string{seg1}) {
		t.Errorf("example 1: %d batches, %d operations, %v", len(batches), d.Ops(), d.Names())
	}
	wants(t, "example 1: Append", l.Append(list(put("a", "x"))), api.OK)
	wants(t, "example 1: Sync", l.Sync(), api.OK)
	if d.Ops() != 6 {
		t.Errorf("example 1: %d operations", d.Ops())
	}
	l, batches = opened(t, d, 4, 100)
	tells(t, "example 2", l, 2, 2, 1, api.OK)
	if d.Ops() != 11 || !sameBatches(batches, []api.Batch{batch(0, put("a", "x"))}) {
		t.Errorf("example 2: %v, %d operations", batches, d.Ops())
	}
	d = made(t, 512)
	l, _ = opened(t, d, 4, 100)
	d.Plan([]disk.Fault{{At: 1}}, 0)
	wants(t, "example 4: Append", l.Append(list(put("a", "x"))), api.ErrIO)
	wants(t, "example 4: Append again", l.Append(list(put("a", "x"))), api.ErrFailed)
	wants(t, "example 4: Sync", l.Sync(), api.ErrFailed)
	wants(t, "example 4: Append of none", l.Append(nil), api.ErrForm)
	tells(t, "example 4", l, 1, 1, 0, api.ErrIO)
	d = from(t, 512, []disk.File{durable(seg7)})
	l, _ = opened(t, d, 4, 100)
	tells(t, "example 5", l, 1, 8, 0, api.OK)
	if d.Ops() != 4 || !slices.Equal(d.Names(), []string{seg7, seg8}) {
		t.Errorf("example 5: %d operations, %v", d.Ops(), d.Names())
	}
	d = from(t, 512, []disk.File{durable(seg1, head(1, 1, 3))})
	refused(t, "example 5", d, 4, 100, api.ErrCorrupt)
	if d.Ops() != 0 {
		t.Errorf("example 5: %d operations", d.Ops())
	}
}

// ledger is what the batches on a disk have to be by P9.6: a beginning of those that were handed over, with the sure ones.
type ledger struct {
	handed []api.Batch
	sure   int
	count  int // entries that were ever made, so that no two batches are alike
}

// append hands the next batch over, of so many entries.
func (k *ledger) append(l *wal.Log, entries int) api.Errno {
	b := api.Batch{First: l.Next()}
	for range entries {
		b.Entries = append(b.Entries, put(fmt.Sprint("k", k.count), strings.Repeat("v", k.count%7)))
		k.count++
	}
	whole := l.State() == api.OK
	e := l.Append(b.Entries)
	if whole { // behind a failure nothing is written any more
		k.handed = append(k.handed, b)
	}
	return e
}

func (k *ledger) sync(l *wal.Log) api.Errno {
	e := l.Sync()
	if e == api.OK {
		k.sure = len(k.handed)
	}
	return e
}

// open opens a log, and tells what is wrong with its batches.
func (k *ledger) open(d *disk.Disk, limit int) (*wal.Log, api.Errno, string) {
	l, batches, e := wal.Open(d, 4, limit)
	switch {
	case e == api.ErrCorrupt:
		return l, e, "ErrCorrupt"
	case e != api.OK:
		return l, e, ""
	case len(batches) < k.sure:
		return l, e, fmt.Sprintf("%d batches, but %d are sure", len(batches), k.sure)
	case len(batches) > len(k.handed) || !sameBatches(batches, k.handed[:len(batches)]):
		return l, e, fmt.Sprintf("no beginning of what was handed over: %v of %v", batches, k.handed)
	}
	k.handed = slices.Clone(batches)
	k.sure = len(batches)
	return l, e, ""
}

func (k ledger) copy() *ledger {
	k.handed = slices.Clone(k.handed)
	return &k
}

// copied answers a disk like d with its power on; files came in the order of their names here.
func copied(t testing.TB, d *disk.Disk, sector int) *disk.Disk {
	t.Helper()
	return from(t, sector, d.Files())
}

// run does the steps of a script on a disk: o opens, a digit appends so many entries, s syncs. A refused Open leaves no log.
func (k *ledger) run(t *testing.T, what string, d *disk.Disk, limit int, script string) {
	t.Helper()
	var l *wal.Log
	for _, step := range script {
		switch {
		case step == 'o':
			var wrong string
			if l, _, wrong = k.open(d, limit); wrong != "" {
				t.Fatalf("%s: %s", what, wrong)
			}
		case l == nil:
		case step == 's':
			k.sync(l)
		default:
			k.append(l, int(step-'0'))
		}
	}
}

// fates answers what a cut of power may leave of a disk: of each count of names, and of each file each count of bytes that stride leads to.
func fates(d *disk.Disk, stride int) []disk.Fate {
	keeps := [][]disk.Keep{nil}
	unnamed := 0
	for _, f := range d.Files() {
		if !f.Named {
			unnamed++
		}
		if f.Synced == len(f.Bytes) {
			continue
		}
		var more [][]disk.Keep
		for _, ahead := range keeps {
			for n := 0; n <= len(f.Bytes)-f.Synced; n++ {
				if n%stride > 1 && n < len(f.Bytes)-f.Synced-1 {
					continue
				}
				for _, torn := range []bool{false, true} {
					more = append(more, append(slices.Clone(ahead), disk.Keep{Name: f.Name, Bytes: n, Torn: torn}))
				}
			}
		}
		keeps = more
	}
	var all []disk.Fate
	for names := 0; names <= unnamed; names++ {
		for _, k := range keeps {
			all = append(all, disk.Fate{Names: names, Keeps: k})
		}
	}
	return all
}

// outlives looks whether a log can be opened with all that is sure, for each fate of the disk; and whether it can go on, and be opened once more.
func outlives(t *testing.T, what string, d *disk.Disk, k *ledger, sector, stride int, deeper bool) int {
	t.Helper()
	looked := 0
	for _, fate := range fates(d, stride) {
		left := copied(t, d, sector)
		left.Restart(fate)
		if deeper {
			for at := 1; at <= 8; at++ {
				for _, crash := range []bool{true, false} {
					looked += again(t, fmt.Sprintf("%s, %v, then operation %d, crash %v", what, fate, at, crash), left, k, sector, at, crash)
				}
			}
		}
		then := k.copy()
		l, e, wrong := then.open(left, 80)
		if e != api.OK || wrong != "" {
			t.Fatalf("%s, %v: %d, %s", what, fate, e, wrong)
		}
		then.append(l, 1)
		then.sync(l)
		then.append(l, 2)
		if _, e, wrong := then.open(left, 80); e != api.OK || wrong != "" || len(then.handed) < 2 {
			t.Fatalf("%s, %v, opened again: %d, %s, %d batches", what, fate, e, wrong, len(then.handed))
		}
		looked++
	}
	return looked
}

// again meets a refusal or a cut in the Open behind a cut, or in what comes behind it.
func again(t *testing.T, what string, d *disk.Disk, k *ledger, sector, at int, crash bool) int {
	t.Helper()
	d, k = copied(t, d, sector), k.copy()
	if crash {
		d.Plan(nil, at)
	} else {
		d.Plan([]disk.Fault{{At: at, Keep: at * 7}}, 0)
	}
	k.run(t, what, d, 1, "o1s1o1")
	return outlives(t, what, d, k, sector, 60, false)
}

// TestP9_6_EachCut: the power goes off at each operation, and leaves whatever it may leave.
func TestP9_6_EachCut(t *testing.T) {
	looked := 0
	for _, limit := range []int{1, 120, 1000} {
		const script = "o1s21s1o11so"
		whole := made(t, 512)
		new(ledger).run(t, "no plan", whole, limit, script)
		for at := 1; at <= whole.Ops()+1; at++ {
			d, k := made(t, 16), &ledger{}
			d.Plan(nil, at)
			what := fmt.Sprintf("the limit %d, a cut at %d", limit, at)
			k.run(t, what, d, limit, script)
			for _, sector := range []int{1, 16, 512} {
				looked += outlives(t, what, d, k, sector, 1, false)
			}
			looked += outlives(t, what, d, k, 16, 50, true)
		}
	}
	if looked < 10000 {
		t.Errorf("only %d ends were looked at", looked)
	}
}

// TestP9_6_EachRefusal: each operation is refused, with each count of bytes that it may leave all the same, and then one more; logs are opened behind it, and the power goes off at the end.
func TestP9_6_EachRefusal(t *testing.T) {
	for _, limit := range []int{1, 120, 1000} {
		const script = "o1s2o1so11o1s1o1"
		whole := made(t, 512)
		new(ledger).run(t, "no plan", whole, limit, script)
		for at := 1; at <= whole.Ops()+1; at++ {
			for _, keep := range []int{0, 18, 25, 47, 48, 1000} {
				for second := at; second <= min(at+6, whole.Ops()); second += 2 {
					d, k := made(t, 16), &ledger{}
					d.Plan([]disk.Fault{{At: at, Keep: keep}, {At: second, Keep: 1000 - keep}}, 0)
					what := fmt.Sprintf("the limit %d, a refusal at %d, keep %d, and at %d", limit, at, keep, second)
					k.run(t, what, d, limit, script)
					outlives(t, what, d, k, 16, 30, false)
				}
			}
		}
	}
}

// TestP9_6_AnyRun: logs one behind the other, with refusals, cuts and whatever is left, as a seed has them.
func TestP9_6_AnyRun(t *testing.T) {
	ends := map[api.Errno]int{}
	for seed := range int64(300) {
		r := rand.New(rand.NewSource(seed))
		d, k := made(t, 1+r.Intn(64)), &ledger{}
		var l *wal.Log
		for turn := range 80 {
			what := fmt.Sprintf("seed %d, turn %d", seed, turn)
			var e api.Errno
			switch n := r.Intn(20); {
			case l == nil || n == 0:
				if d.Off() {
					fate := pick(r, fates(d, 9)...)
					d.Restart(fate)
				}
				var wrong string
				if l, e, wrong = k.open(d, 1+r.Intn(300)); wrong != "" {
					t.Fatalf("%s: %s", what, wrong)
				}
			case n < 10:
				e = k.append(l, 1+r.Intn(3))
			case n < 14:
				e = k.sync(l)
			case n < 16:
				d.Plan([]disk.Fault{{At: 1 + r.Intn(8), Keep: r.Intn(60)}, {At: 1 + r.Intn(8), Keep: r.Intn(60)}}, r.Intn(40))
			case n < 17:
				d.Cut()
			}
			ends[e]++
			if l != nil && l.State() != api.OK && r.Intn(3) > 0 {
				l = nil
			}
		}
		outlives(t, fmt.Sprintf("seed %d", seed), d, k, 16, 30, false)
	}
	for _, e := range []api.Errno{api.OK, api.ErrIO, api.ErrFailed, api.ErrCrash} {
		if ends[e] < 50 {
			t.Errorf("only %d calls have ended with %d", ends[e], e)
		}
	}
}

func pick[T any](r *rand.Rand, of ...T) T { return of[r.Intn(len(of))] }

// model is a log by the chapter's words, over a disk of its own.
type model struct {
	d                   *disk.Disk
	w, limit            int
	epoch, number, next uint64
	batches, bytes      int
	state               api.Errno
}

// refFrame is a frame by the layers below, without the segment's calls.
func refFrame(place uint64, payload []byte) []byte {
	p, e := frame.Encode(frame.Frame{Place: place, Payload: payload})
	if e != api.OK {
		panic(e)
	}
	return p
}

func refName(number uint64) string { return fmt.Sprintf("seg-%020d", number) }

func refHead(number, epoch, first uint64, w int) []byte {
	p := []byte("NTRY1")
	for _, n := range []uint64{number, epoch, first} {
		for shift := 56; shift >= 0; shift -= 8 {
			p = append(p, byte(n>>shift))
		}
	}
	return refFrame(number, append(p, byte(w)))
}

// refOpen is P9.1's and P9.2's words.
func refOpen(d *disk.Disk, w, limit int) (*model, []api.Batch, api.Errno) {
	if w < 1 || w > 32 || limit < 1 || limit > 1048576 {
		return nil, nil, api.ErrArg
	}
	if d.Off() {
		return nil, nil, api.ErrCrash
	}
	type numbered struct {
		number uint64
		s      segment.Segment
	}
	var segments []numbered
	greatest, epoch, corrupt := uint64(0), uint64(0), false
	for _, f := range d.Files() {
		number, e := segment.Number(f.Name)
		if e != api.OK {
			continue
		}
		corrupt = corrupt || number == 1<<64-1
		greatest = max(greatest, number)
		if s, e := segment.Read(f.Bytes); e == api.OK {
			segments = append(segments, numbered{number, s})
		}
	}
	slices.SortFunc(segments, func(a, b numbered) int {
		if a.number < b.number {
			return -1
		}
		return 1
	})
	var ops []op
	var batches []api.Batch
	count := uint64(0)
	for i, n := range segments {
		h := n.s.Head
		corrupt = corrupt || h.Number != n.number || h.Width != w || h.Epoch == 1<<64-1 || h.First != count
		corrupt = corrupt || i > 0 && h.Epoch < segments[i-1].s.Head.Epoch
		epoch = max(epoch, h.Epoch)
		for _, b := range n.s.Batches {
			count += uint64(len(b.Entries))
			batches = append(batches, b)
		}
		ops = append(ops, op{'s', refName(n.number), nil})
	}
	if corrupt {
		return nil, nil, api.ErrCorrupt
	}
	m := &model{d: d, w: w, limit: limit, epoch: epoch + 1, number: greatest + 1, next: count, bytes: 48}
	name := refName(m.number)
	ops = append(ops, op{'c', name, nil}, op{'a', name, refHead(m.number, m.epoch, count, w)}, op{'s', name, nil}, op{'n', "", nil})
	if e := doAll(d, ops); e != api.OK {
		return nil, nil, e
	}
	return m, batches, api.OK
}

func (m *model) failed() api.Errno {
	if m.state == api.ErrIO {
		return api.ErrFailed
	}
	return m.state
}

// append is P9.3's words.
func (m *model) append(entries []api.Entry) api.Errno {
	payload, e := entry.EncodeBatch(batch(m.next, entries...))
	if e != api.OK {
		return e
	}
	if e := m.failed(); e != api.OK {
		return e
	}
	number, p := m.number, refFrame(m.next, payload)
	rotates := m.batches >= 1 && m.bytes >= m.limit
	var ops []op
	if rotates {
		ops = append(ops, op{'s', refName(number), nil})
		if number == 1<<64-1 {
			if m.state = doAll(m.d, ops); m.state == api.OK {
				m.state = api.ErrIO
			}
			return m.state
		}
		number++
		name := refName(number)
		ops = append(ops, op{'c', name, nil}, op{'a', name, refHead(number, m.epoch, m.next, m.w)}, op{'s', name, nil}, op{'n', "", nil})
	}
	m.state = doAll(m.d, append(ops, op{'a', refName(number), p}))
	if m.state != api.OK {
		return m.state
	}
	if rotates {
		m.number, m.batches, m.bytes = number, 0, 48
	}
	m.batches, m.bytes, m.next = m.batches+1, m.bytes+len(p), m.next+uint64(len(entries))
	return api.OK
}

// sync is P9.4's words.
func (m *model) sync() api.Errno {
	if e := m.failed(); e != api.OK {
		return e
	}
	m.state = m.d.Sync(refName(m.number))
	return m.state
}

// anyFiles answers files of a log, often with something wrong in one of them.
func anyFiles(r *rand.Rand) []disk.File {
	number, epoch, first := uint64(r.Intn(2)), uint64(r.Intn(3)), uint64(0)
	if r.Intn(8) == 0 {
		number = math.MaxUint64 - uint64(r.Intn(5))
	}
	if r.Intn(10) == 0 {
		epoch = math.MaxUint64 - uint64(r.Intn(4))
	}
	var files []disk.File
	for range r.Intn(5) {
		h := segment.Head{Number: number, Epoch: epoch, First: first, Width: 4}
		switch r.Intn(40) {
		case 0:
			h.Number++
		case 1:
			h.Epoch -= min(h.Epoch, uint64(r.Intn(3)))
		case 2:
			h.First += uint64(r.Intn(2))
		case 3:
			h.Width += r.Intn(2)
		}
		p, _ := segment.EncodeHead(h)
		for range r.Intn(4) {
			entries := anyEntries(r)
			q, e := segment.EncodeBatch(batch(first, entries...))
			if e != api.OK {
				continue
			}
			p = append(p, q...)
			first += uint64(len(entries))
		}
		switch r.Intn(12) {
		case 0:
			p = append(p, make([]byte, r.Intn(40))...)
		case 1:
			p = p[:r.Intn(len(p)+1)]
		case 2:
			p[r.Intn(len(p))] ^= 1 << r.Intn(8)
		}
		files = append(files, disk.File{Name: refName(number), Bytes: p, Synced: r.Intn(len(p) + 1), Named: r.Intn(2) == 0})
		epoch += uint64(r.Intn(2))
		if number > math.MaxUint64-2 {
			break
		}
		number += 1 + uint64(r.Intn(2))
	}
	if r.Intn(4) == 0 {
		files = append(files, disk.File{Name: "t-other", Bytes: head(1, 1, 0)})
	}
	return files
}

// anyEntries answers a batch's entries, at times such as can't be.
func anyEntries(r *rand.Rand) []api.Entry {
	var entries []api.Entry
	for range pick(r, 1, 1, 2, 3) {
		entries = append(entries, pick(r, put("a", "x"), put("", ""), del("a"), put("key", strings.Repeat("v", r.Intn(40)))))
	}
	if r.Intn(12) == 0 {
		entries = pick(r, wrongBatches()...).entries
	}
	return entries
}

// play makes turns on a disk and on a second one by the words, and tells the first difference; met counts what the calls have answered.
func play(t testing.TB, seed int64, turns int, met map[string]int) string {
	r := rand.New(rand.NewSource(seed))
	files, sector := anyFiles(r), 1+r.Intn(100)
	d, twin := from(t, sector, files), from(t, sector, files)
	var l *wal.Log
	var m *model
	for turn := range turns {
		var got, want api.Errno
		what := "nothing"
		switch n := r.Intn(20); {
		case l == nil && n < 10 || n == 0:
			what = "Open"
			w, limit := pick(r, 4, 4, 4, 4, 4, 4, 5, 0, 33), pick(r, 1, 50, 100, 150, 1000, 1000, 1<<20, 1<<20+1, 0)
			log, batches, e := wal.Open(d, w, limit)
			ref, others, f := refOpen(twin, w, limit)
			if !sameBatches(batches, others) || (log == nil) != (ref == nil) {
				return fmt.Sprintf("turn %d: Open answers %v, %v, want %v, %v", turn, log, batches, ref, others)
			}
			if got, want = e, f; e == api.OK || f == api.OK {
				l, m = log, ref
			} else if e != api.ErrArg && e != api.ErrCorrupt {
				l, m = nil, nil // a file may be left that stands in the way of the log before
			}
		case n < 12 && l != nil:
			what = "Append"
			entries := anyEntries(r)
			got, want = l.Append(entries), m.append(entries)
		case n < 16 && l != nil:
			what = "Sync"
			got, want = l.Sync(), m.sync()
		case n < 18:
			faults, crash := []disk.Fault{{At: r.Intn(10), Keep: r.Intn(80)}, {At: r.Intn(30), Keep: r.Intn(80)}}, r.Intn(60)
			d.Plan(faults, crash)
			twin.Plan(faults, crash)
		case n < 19 && (d.Off() || r.Intn(4) == 0):
			fate := disk.Fate{Names: r.Intn(3)}
			for _, f := range d.Files() {
				fate.Keeps = append(fate.Keeps, disk.Keep{Name: f.Name, Bytes: r.Intn(150), Torn: r.Intn(2) == 0})
			}
			d.Restart(fate)
			twin.Restart(fate)
			l, m = nil, nil
		case n == 19 && r.Intn(4) == 0:
			d.Cut()
			twin.Cut()
		}
		met[fmt.Sprint(what, " ", got)]++
		if got != want {
			return fmt.Sprintf("turn %d: %s answers %d, want %d", turn, what, got, want)
		}
		if d.Ops() != twin.Ops() || d.Off() != twin.Off() || !sameFiles(d.Files(), twin.Files()) {
			return fmt.Sprintf("turn %d: behind %s (%d) the disks are not alike", turn, what, got)
		}
		if l == nil {
			continue
		}
		if l.Epoch() != m.epoch || l.Next() != m.next || l.State() != m.state || m.state == api.OK && l.Segment() != m.number {
			return fmt.Sprintf("turn %d: behind %s the log tells %d, %d, %d, %d, want %d, %d, %d, %d", turn, what, l.Epoch(), l.Segment(), l.Next(), l.State(), m.epoch, m.number, m.next, m.state)
		}
	}
	return ""
}

func TestP9_AsTheWordsSay(t *testing.T) {
	met := map[string]int{}
	for seed := range int64(1500) {
		if wrong := play(t, seed, 50, met); wrong != "" {
			t.Fatalf("seed %d: %s", seed, wrong)
		}
	}
	for _, what := range []string{"Open 0", "Open 1", "Open 7", "Open 11", "Open 12", "Append 0", "Append 2", "Append 3", "Append 7", "Append 8", "Append 12", "Sync 0", "Sync 7", "Sync 8", "Sync 12"} {
		if met[what] < 20 {
			t.Errorf("%s was met %d times", what, met[what])
		}
	}
}

func TestP2_ManyAtATime(t *testing.T) {
	var group sync.WaitGroup
	wrong := make([]string, 16)
	for i := range wrong {
		group.Go(func() {
			for seed := range int64(20) {
				if w := play(t, seed, 40, map[string]int{}); w != "" {
					wrong[i] = w
				}
			}
		})
	}
	group.Wait()
	for i, w := range wrong {
		if w != "" {
			t.Errorf("goroutine %d: %s", i, w)
		}
	}
}

// TestP2_TwoLogs: a log does not hang on what is asked of another one.
func TestP2_TwoLogs(t *testing.T) {
	d, other, twin := made(t, 512), made(t, 512), made(t, 512)
	a, _ := opened(t, d, 4, 100)
	b, _ := opened(t, other, 7, 1)
	c, _ := opened(t, twin, 4, 100)
	for i := range 5 {
		entries := list(put(fmt.Sprint(i), "x"))
		wants(t, "Append", a.Append(entries), api.OK)
		wants(t, "another's Append", b.Append(list(del("a"), del("b"))), api.OK)
		wants(t, "the twin's Append", c.Append(entries), api.OK)
	}
	other.Cut()
	wants(t, "another's Sync", b.Sync(), api.ErrCrash)
	wants(t, "Sync", a.Sync(), api.OK)
	wants(t, "the twin's Sync", c.Sync(), api.OK)
	alike(t, "with another log beside it", d, twin)
	tells(t, "with another log beside it", a, 1, c.Segment(), 5, api.OK)
}

// roomy answers p with spare room behind it.
func roomy(p []byte) []byte { return append(slices.Clone(p), "spare room"...)[:len(p)] }

// scrawl writes over p and its spare room.
func scrawl(p []byte) {
	for i := range p[:cap(p)] {
		p[:cap(p)][i] ^= 0xa5
	}
}

// whole answers a copy of p and of its spare room.
func whole(p []byte) []byte { return slices.Clone(p[:cap(p)]) }

func TestMemory_Append(t *testing.T) {
	for _, limit := range []int{1, 1000} {
		d := made(t, 512)
		l, _ := opened(t, d, 4, limit)
		key, value := roomy([]byte("key")), roomy([]byte("value"))
		keyWas, valueWas := whole(key), whole(value)
		room := list(api.Entry{Kind: api.Put, Key: key, Value: value}, api.Entry{Kind: api.Delete, Key: key}, api.Entry{Kind: 77})
		for range 3 {
			wants(t, "Append", l.Append(room[:2]), api.OK)
		}
		if !bytes.Equal(whole(key), keyWas) || !bytes.Equal(whole(value), valueWas) || room[2].Kind != 77 || room[0].Kind != api.Put || len(room[0].Key) != 3 || len(room[1].Value) != 0 {
			t.Fatal("what was handed in has changed")
		}
		scrawl(key)
		scrawl(value)
		room[0], room[1] = api.Entry{}, api.Entry{}
		_, batches := opened(t, d, 4, limit)
		var want []api.Batch
		for i := range uint64(3) {
			want = append(want, batch(2*i, put("key", "value"), del("key")))
		}
		if !sameBatches(batches, want) {
			t.Errorf("the limit %d: what was handed in was kept: %v", limit, batches)
		}
	}
}

// spoil writes over all that an answer holds, its spare room too.
func spoil(batches []api.Batch) {
	for i := range batches[:cap(batches)] {
		b := &batches[:cap(batches)][i]
		entries := b.Entries[:cap(b.Entries)]
		for j := range entries {
			scrawl(entries[j].Key)
			scrawl(entries[j].Value)
			entries[j] = api.Entry{Kind: 99}
		}
		*b = api.Batch{First: 99}
	}
}

func TestMemory_Open(t *testing.T) {
	d := made(t, 512)
	l, _ := opened(t, d, 4, 100)
	var want []api.Batch
	for i := range uint64(6) {
		want = append(want, batch(2*i, put(fmt.Sprint("key", i), "value"), del("key")))
		wants(t, "Append", l.Append(want[i].Entries), api.OK)
	}
	_, one := opened(t, d, 4, 100)
	l, two := opened(t, d, 4, 100)
	files := d.Files()
	spoil(one)
	if !sameBatches(two, want) {
		t.Error("two answers share memory")
	}
	for i := range two {
		for j := range two[i].Entries { // each list by itself: what is written over one is not to be seen in another
			e := &two[i].Entries[j]
			scrawl(e.Key)
			scrawl(e.Value)
			for k, b := range two {
				for n, other := range b.Entries {
					if (k > i || k == i && n > j) && !sameEntry(other, want[k].Entries[n]) {
						t.Fatalf("entry %d of batch %d shares memory with entry %d of batch %d", n, k, j, i)
					}
				}
			}
		}
		two[i].Entries = append(two[i].Entries, api.Entry{Kind: 99})
	}
	spoil(two)
	if !sameFiles(d.Files(), files) {
		t.Error("an answer shares memory with the disk")
	}
	wants(t, "Append", l.Append(list(put("a", "x"))), api.OK)
	_, three := opened(t, d, 4, 100)
	if !sameBatches(three, append(want, batch(12, put("a", "x")))) {
		t.Error("a log has kept its answer")
	}
}

// TestP1_NotMadeByOpen: of such logs and disks nothing is promised but that calls end and don't panic.
func TestP1_NotMadeByOpen(t *testing.T) {
	use := func(l *wal.Log) {
		for range 3 {
			l.Append(list(put("a", "x")))
			l.Append(nil)
			l.Sync()
			l.Next()
			l.Epoch()
			l.Segment()
			l.State()
		}
	}
	use(nil)
	use(&wal.Log{})
	use(new(wal.Log))
	for _, limit := range []int{1, 1000} {
		d := made(t, 512)
		l, _ := opened(t, d, 4, limit)
		twin := *l
		use(&twin)
		use(l)
		use(&twin)
		d = made(t, 512)
		l, _ = opened(t, d, 4, limit)
		second, _ := opened(t, d, 4, limit)
		use(l)
		use(second)
		use(l)
		d = made(t, 512)
		l, _ = opened(t, d, 4, limit)
		use(l)
		d.Restart(disk.Fate{})
		use(l)
		d = from(t, 512, nil)
		l, _ = opened(t, d, 4, limit)
		*d = disk.Disk{} // its files are gone
		use(l)
	}
	refused(t, "a disk that was not made", &disk.Disk{}, 4, 100, api.ErrNone)
}

// TestP1_AnyFiles: whatever stands on a disk, an Open ends.
func TestP1_AnyFiles(t *testing.T) {
	r := rand.New(rand.NewSource(91))
	for range 3000 {
		p := make([]byte, r.Intn(200))
		r.Read(p)
		copy(p, head(1, 1, 0)[:r.Intn(49)])
		files := []disk.File{durable(seg1, p), durable(seg2, head(2, 2, 0)[:r.Intn(49)], p)}
		d := from(t, 1+r.Intn(512), files)
		l, batches, e := wal.Open(d, 1+r.Intn(32), 1)
		if e != api.OK && (l != nil || len(batches) > 0 || d.Ops() != 0) || e == api.OK && l == nil {
			t.Fatalf("files %v: %v, %v, %d", files, l, batches, e)
		}
	}
}
