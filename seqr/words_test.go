package seqr_test

import (
	"bytes"
	"math/rand"
	"reflect"
	"slices"
	"strconv"
	"testing"

	"notary/api"
	"notary/disk"
	"notary/entry"
	"notary/replay"
	"notary/seqr"
	"notary/snap"
	"notary/wal"
)

// where are the places of the table, by its words.
type where string

const (
	isIdle       where = "idle"
	isGathering  where = "gathers"
	hasWritten   where = "has written"
	hasSynced    where = "has synced"
	hasPublished where = "has published"
	hasFailed    where = "has failed, its batch not all replied to"
	hasEnded     where = "ended"
)

// waiting is a reply that waits for a client.
type waiting struct {
	client int
	answer api.Answer
}

// desk is the sequencer as DOC.md's table has it, row by row, with a log of its own on a disk of its own.
type desk struct {
	config      seqr.Config
	log         *wal.Log
	at          where
	queue, line []seqr.Request
	closed      bool
	batch       []seqr.Request
	first       uint64
	replied     int
	entries     []api.Entry // of what is published
	sizes       []uint64    // its boundaries
	replies     []waiting   // of all clients
}

// row is a row of the table: where the sequencer stands, when it is ready, and its step.
type row struct {
	at    where
	ready func(d *desk) bool
	step  func(d *desk) api.Event
}

func always(*desk) bool { return true }

func (d *desk) bad() bool { return d.log.State() != api.OK }

func table() []row {
	return []row{
		{isIdle, func(d *desk) bool { return !d.bad() && len(d.queue) > 0 }, func(d *desk) api.Event {
			d.batch, d.replied, d.at = nil, 0, isGathering
			return d.take()
		}},
		{isIdle, func(d *desk) bool { return len(d.queue) == 0 && d.closed }, func(d *desk) api.Event {
			d.at = hasEnded
			return api.Event{Kind: api.EvStop}
		}},
		{isIdle, func(d *desk) bool { return d.bad() && len(d.queue) > 0 }, func(d *desk) api.Event {
			return d.reply(d.off().Client, api.Answer{E: api.ErrFailed})
		}},
		{isGathering, func(d *desk) bool { return len(d.batch) < d.config.Batch && len(d.queue) > 0 }, (*desk).take},
		{isGathering, always, func(d *desk) api.Event {
			d.first = d.log.Next()
			return d.called(d.log.Append(d.taken()), hasWritten, api.Event{Kind: api.EvWrite, N: uint64(len(d.batch))})
		}},
		{hasWritten, always, func(d *desk) api.Event {
			return d.called(d.log.Sync(), hasSynced, api.Event{Kind: api.EvSync})
		}},
		{hasSynced, always, func(d *desk) api.Event {
			d.entries = append(d.entries, d.taken()...)
			d.sizes = append(d.sizes, uint64(len(d.entries)))
			d.at = hasPublished
			return api.Event{Kind: api.EvPublish, N: uint64(len(d.entries))}
		}},
		{hasPublished, always, func(d *desk) api.Event {
			return d.next(api.Answer{E: api.OK, Index: d.first + uint64(d.replied)})
		}},
		{hasFailed, always, func(d *desk) api.Event { return d.next(api.Answer{E: api.ErrFailed}) }},
	}
}

// row answers the row by which a step is done now; nil, if there is none.
func (d *desk) row() *row {
	if d.log.State() == api.ErrCrash {
		return nil
	}
	for _, r := range table() {
		if r.at == d.at && r.ready(d) {
			return &r
		}
	}
	return nil
}

func (d *desk) step() api.Event {
	if r := d.row(); r != nil {
		return r.step(d)
	}
	return api.Event{}
}

// off takes the first one off the queue; the first of the line moves up.
func (d *desk) off() seqr.Request {
	r := d.queue[0]
	d.queue = slices.Clone(d.queue[1:])
	if len(d.line) > 0 {
		d.queue, d.line = append(d.queue, d.line[0]), slices.Clone(d.line[1:])
	}
	return r
}

func (d *desk) take() api.Event {
	r := d.off()
	d.batch = append(d.batch, r)
	return api.Event{Kind: api.EvTake, To: r.Client, N: uint64(len(d.batch))}
}

func (d *desk) taken() []api.Entry {
	var entries []api.Entry
	for _, r := range d.batch {
		entries = append(entries, r.Entry)
	}
	return entries
}

func (d *desk) called(e api.Errno, at where, v api.Event) api.Event {
	switch e {
	case api.OK:
		d.at = at
		return v
	case api.ErrIO:
		d.at = hasFailed
		return api.Event{Kind: api.EvFail}
	case api.ErrCrash:
		return api.Event{Kind: api.EvCrash}
	}
	panic("the log answered " + strconv.Itoa(int(e)))
}

func (d *desk) next(a api.Answer) api.Event {
	r := d.batch[d.replied]
	d.replied++
	if d.replied == len(d.batch) {
		d.at = isIdle
	}
	return d.reply(r.Client, a)
}

func (d *desk) reply(client int, a api.Answer) api.Event {
	d.replies = append(d.replies, waiting{client, a})
	return api.Event{Kind: api.EvReply, To: client, N: a.Index, Answer: a}
}

func (d *desk) offer(r seqr.Request) api.Errno {
	if e := entry.Check(r.Entry); e != api.OK {
		return e
	}
	if d.bad() {
		return api.ErrFailed
	}
	if d.closed {
		return api.ErrClosed
	}
	if len(d.queue) == d.config.Places || len(d.line) > 0 {
		d.line = append(d.line, r)
	} else {
		d.queue = append(d.queue, r)
	}
	return api.OK
}

func (d *desk) shut() api.Errno {
	if d.closed {
		return api.ErrClosed
	}
	d.closed = true
	return api.OK
}

func (d *desk) oldest(client int) int {
	return slices.IndexFunc(d.replies, func(w waiting) bool { return w.client == client })
}

func (d *desk) collect(client int) (api.Answer, bool) {
	i := d.oldest(client)
	if i < 0 {
		return api.Answer{}, false
	}
	a := d.replies[i].answer
	d.replies = slices.Delete(d.replies, i, i+1)
	return a, true
}

// room is a sequencer and its twin by the words, each with a disk of its own.
type room struct {
	t     *testing.T
	w     int
	disk  *disk.Disk
	twin  *disk.Disk
	seqr  *seqr.Seqr
	words *desk
	told  []api.Event
}

// enter recovers both disks, lays the plan, and begins both sequencers.
func enter(t *testing.T, c seqr.Config, w, limit int, a, b *disk.Disk, faults []disk.Fault, crash int) *room {
	t.Helper()
	l, s := recovered(t, a, w, limit)
	twinLog, twinSnap := recovered(t, b, w, limit)
	a.Plan(faults, crash)
	b.Plan(faults, crash)
	q := made(t, c, l, s)
	return &room{t: t, w: w, disk: a, twin: b, seqr: q,
		words: &desk{config: c, log: twinLog, at: isIdle, entries: entriesOf(t, twinSnap), sizes: twinSnap.Sizes()}}
}

func (r *room) offer(req seqr.Request) {
	r.t.Helper()
	if got, want := r.seqr.Offer(req), r.words.offer(req); got != want {
		r.t.Fatalf("Offer(%v): %d, want %d", req, got, want)
	}
	r.look()
}

func (r *room) shut() {
	r.t.Helper()
	if got, want := r.seqr.Shut(), r.words.shut(); got != want {
		r.t.Fatalf("Shut: %d, want %d", got, want)
	}
	r.look()
}

func (r *room) step() api.Event {
	r.t.Helper()
	at := r.words.at
	got, want := r.seqr.Step(), r.words.step()
	if !reflect.DeepEqual(got, want) {
		r.t.Fatalf("Step where it %s: %v, want %v", at, got, want)
	}
	if got.Kind != 0 {
		r.told = append(r.told, got)
	}
	r.look()
	return got
}

func (r *room) collect(client int) (api.Answer, bool) {
	r.t.Helper()
	got, has := r.seqr.Collect(client)
	want, wantHas := r.words.collect(client)
	if !reflect.DeepEqual(got, want) || has != wantHas {
		r.t.Fatalf("Collect(%d): %v, %v, want %v, %v", client, got, has, want, wantHas)
	}
	r.look()
	return got, has
}

// look holds all that the sequencer tells against the words; twice, as looking changes nothing.
func (r *room) look() {
	r.t.Helper()
	d := r.words
	for range 2 {
		if got, want := r.seqr.Ready(), d.row() != nil; got != want {
			r.t.Fatalf("Ready where it %s: %v, want %v", d.at, got, want)
		}
		if got, want := r.seqr.Ended(), d.at == hasEnded; got != want {
			r.t.Fatalf("Ended where it %s: %v, want %v", d.at, got, want)
		}
		if got, want := r.seqr.State(), d.log.State(); got != want {
			r.t.Fatalf("State where it %s: %d, want %d", d.at, got, want)
		}
		if got, want := r.seqr.Now().Sizes(), d.sizes; !slices.Equal(got, want) {
			r.t.Fatalf("Now where it %s has the boundaries %v, want %v", d.at, got, want)
		}
		for client := -1; client <= 4; client++ {
			if got, want := r.seqr.Has(client), d.oldest(client) >= 0; got != want {
				r.t.Fatalf("Has(%d) where it %s: %v, want %v", client, d.at, got, want)
			}
		}
	}
	if !reflect.DeepEqual(r.disk.Files(), r.twin.Files()) || r.disk.Ops() != r.twin.Ops() {
		r.t.Fatalf("where it %s the disks are not the same", d.at)
	}
}

// truth looks whether the root that is published is that of the entries.
func (r *room) truth() {
	r.t.Helper()
	roots, _ := replay.Roots(r.w, r.words.entries)
	if got := r.seqr.Now().Root(); got != roots[len(roots)-1] {
		r.t.Fatalf("published: %v, want %v", got, roots[len(roots)-1])
	}
}

// sure looks whether all that is published would be there again if the power went off now and took along all that may go.
func (r *room) sure() {
	r.t.Helper()
	again := copyOf(r.t, r.disk)
	again.Cut()
	again.Restart(disk.Fate{})
	_, s := recovered(r.t, again, r.w, 1000)
	old, now := entriesOf(r.t, r.seqr.Now()), entriesOf(r.t, s)
	if len(now) < len(old) || !sameEntries(now[:len(old)], old) {
		r.t.Fatalf("of %d entries that are published %d are durable", len(old), len(now))
	}
}

func recovered(t testing.TB, d *disk.Disk, w, limit int) (*wal.Log, *snap.Snap) {
	t.Helper()
	l, s, e := replay.Recover(d, w, limit)
	if e != api.OK {
		t.Fatalf("Recover: %d", e)
	}
	return l, s
}

func made(t testing.TB, c seqr.Config, l *wal.Log, s *snap.Snap) *seqr.Seqr {
	t.Helper()
	q, e := seqr.New(c, l, s)
	if e != api.OK || q == nil {
		t.Fatalf("New(%v): %v, %d", c, q, e)
	}
	return q
}

func newDisk(t testing.TB) *disk.Disk {
	t.Helper()
	d, e := disk.New(64)
	if e != api.OK {
		t.Fatalf("disk.New: %d", e)
	}
	return d
}

// copyOf answers a disk with the same files (segments' names rise as they come).
func copyOf(t testing.TB, d *disk.Disk) *disk.Disk {
	t.Helper()
	c, e := disk.From(64, d.Files())
	if e != api.OK {
		t.Fatalf("disk.From: %d", e)
	}
	return c
}

func entriesOf(t testing.TB, s *snap.Snap) []api.Entry {
	t.Helper()
	var all []api.Entry
	for i := range s.Size() {
		e, fault := s.Entry(i)
		if fault != api.OK {
			t.Fatalf("Entry(%d): %d", i, fault)
		}
		all = append(all, e)
	}
	return all
}

func sameEntry(a, b api.Entry) bool {
	return a.Kind == b.Kind && bytes.Equal(a.Key, b.Key) && bytes.Equal(a.Value, b.Value)
}

func sameEntries(a, b []api.Entry) bool { return slices.EqualFunc(a, b, sameEntry) }

func put(key, value string) api.Entry {
	return api.Entry{Kind: api.Put, Key: []byte(key), Value: []byte(value)}
}

func del(key string) api.Entry { return api.Entry{Kind: api.Delete, Key: []byte(key)} }

func ask(client int, e api.Entry) seqr.Request { return seqr.Request{Client: client, Entry: e} }

// anyRequest answers a request, now and then of an entry that may not be.
func anyRequest(r *rand.Rand) seqr.Request {
	key := "k" + strconv.Itoa(r.Intn(6))
	e := put(key, strconv.Itoa(r.Intn(100)))
	switch r.Intn(12) {
	case 0, 1, 2:
		e = del(key)
	case 3:
		e.Kind = []byte{0, 3, 255, api.Delete}[r.Intn(4)]
	case 4:
		e.Value = make([]byte, api.MaxValue+r.Intn(2))
	case 5:
		e.Key = make([]byte, api.MaxKey+r.Intn(2))
	}
	return ask(r.Intn(4), e)
}

func anyFaults(r *rand.Rand) []disk.Fault {
	if r.Intn(2) == 0 {
		return nil
	}
	return []disk.Fault{{At: 1 + r.Intn(40), Keep: r.Intn(30)}}
}

func anyCrash(r *rand.Rand) int {
	if r.Intn(3) > 0 {
		return 0
	}
	return 1 + r.Intn(40)
}

func anyFate(r *rand.Rand, d *disk.Disk) disk.Fate {
	f := disk.Fate{Names: r.Intn(3)}
	for _, file := range d.Files() {
		f.Keeps = append(f.Keeps, disk.Keep{Name: file.Name, Bytes: r.Intn(60), Torn: r.Intn(2) == 0})
	}
	return f
}

// wander does actions at random.
func (r *room) wander(random *rand.Rand, actions int) {
	r.t.Helper()
	shy := random.Intn(5) // how much the sequencer steps ahead of the offers
	for range actions {
		switch n := random.Intn(20 + shy*5); {
		case n < 7:
			r.offer(anyRequest(random))
		case n < 9:
			r.collect(random.Intn(6) - 1)
		case n == 9 && random.Intn(15) == 0:
			r.shut()
		default:
			if v := r.step(); v.Kind == api.EvPublish {
				r.truth()
				r.sure()
			}
		}
	}
}

// The table and the chapter's words, written a second time, against the sequencer: epochs one behind the other over one disk, with refusals and cuts of power.
func TestP23_Words(t *testing.T) {
	for seed := range int64(200) {
		random := rand.New(rand.NewSource(seed))
		w, limit := 1+random.Intn(32), 1+random.Intn(300)
		a, b := newDisk(t), newDisk(t)
		for range 3 {
			c := seqr.Config{Batch: 1 + random.Intn(5), Places: 1 + random.Intn(4)}
			r := enter(t, c, w, limit, a, b, anyFaults(random), anyCrash(random))
			r.look()
			r.wander(random, 120)
			r.truth()
			r.sure()
			fate := anyFate(random, a)
			a.Restart(fate)
			b.Restart(fate)
		}
	}
}

// epochOf runs a sequencer at random on the log of a disk. It answers what was published in the end, and, one by one, the logs that may be found from then on: what was recovered with each count of batches behind it that were handed to the log.
func epochOf(t *testing.T, random *rand.Rand, d *disk.Disk) (sure []api.Entry, may [][]api.Entry) {
	t.Helper()
	l, s := recovered(t, d, 4, 1+random.Intn(200))
	d.Plan(anyFaults(random), anyCrash(random))
	q := made(t, seqr.Config{Batch: 1 + random.Intn(4), Places: 2}, l, s)
	written := entriesOf(t, s)
	may = append(may, written)
	var line []api.Entry // offered and not taken
	var batch int        // how many are taken and not handed to the log
	for range 60 {
		if r := anyRequest(random); random.Intn(3) == 0 && q.Offer(r) == api.OK {
			line = append(line, r.Entry)
		}
		switch q.Step().Kind {
		case api.EvTake:
			batch++
		case api.EvWrite, api.EvFail, api.EvCrash: // of the last two the batch may stand there or not
			written = append(slices.Clone(written), line[:batch]...)
			may, line, batch = append(may, written), line[batch:], 0
		}
	}
	return entriesOf(t, q.Now()), may
}

// What was published outlives each cut of power, whatever is left of the rest; and what is there then is a beginning of what was written, cut between two batches.
func TestP23_8_WhatIsPublishedStays(t *testing.T) {
	for seed := range int64(200) {
		random := rand.New(rand.NewSource(seed))
		d := newDisk(t)
		for range 3 {
			sure, may := epochOf(t, random, d)
			d.Restart(anyFate(random, d))
			_, s := recovered(t, copyOf(t, d), 4, 1000)
			got := entriesOf(t, s)
			if len(got) < len(sure) {
				t.Fatalf("%d: %d entries were published, and %d are there", seed, len(sure), len(got))
			}
			if !slices.ContainsFunc(may, func(m []api.Entry) bool { return sameEntries(m, got) }) {
				t.Fatalf("%d: %d entries are there, which were not written so", seed, len(got))
			}
		}
	}
}
