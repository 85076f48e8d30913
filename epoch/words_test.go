package epoch_test

import (
	"bytes"
	"math"
	"math/rand"
	"reflect"
	"slices"
	"strconv"
	"testing"

	"notary/api"
	"notary/disk"
	"notary/entry"
	"notary/epoch"
	"notary/replay"
	"notary/seqr"
	"notary/snap"
	"notary/wal"
)

// where are the places of the table, by its words.
type where string

const (
	isIdle       where = "idle"
	isGathering  where = "gathers"
	hasWritten   where = "has written"
	hasSynced    where = "has synced"
	hasPublished where = "has published"
	hasFailed    where = "has failed, its batch not all replied to"
	hasEnded     where = "ended"
	isBetween    where = "between calls"
	hasBegun     where = "has begun"
	hasOffered   where = "its entry is offered"
	hasShut      where = "has shut the sequencer"
)

// person is a client in a hall.
type person struct {
	number  int
	program []api.Call
	pinned  *snap.Snap
	at      where
	call    int
	reply   *api.Answer // that waits; there is at most one, as a client has one request at a time
}

// wish is a request of a client.
type wish struct {
	client int
	entry  api.Entry
}

// hall is an epoch as DOC.md's table has it, row by row, without goroutines, a queue or a baton: the sequencer and its clients.
type hall struct {
	config      seqr.Config
	log         *wal.Log
	now         *snap.Snap
	at          where
	queue, line []wish
	closed      bool
	batch       []wish
	first       uint64
	replied     int
	people      []*person
	pick        int
	events      []api.Event
}

// row is a row of the table: when it is the one, and its step.
type row struct {
	ready func() bool
	step  func() api.Event
}

func (h *hall) bad() bool { return h.log.State() != api.OK }

func (h *hall) sequencer() []row {
	stands := func(at where, and bool) func() bool { return func() bool { return h.at == at && and } }
	waiting := len(h.queue) > 0
	return []row{
		{stands(isIdle, !h.bad() && waiting), func() api.Event {
			h.batch, h.replied, h.at = nil, 0, isGathering
			return h.take()
		}},
		{stands(isIdle, !waiting && h.closed), func() api.Event {
			h.at = hasEnded
			return api.Event{Kind: api.EvStop}
		}},
		{stands(isGathering, len(h.batch) < h.config.Batch && waiting), h.take},
		{stands(isGathering, len(h.batch) >= h.config.Batch || !waiting), func() api.Event {
			h.first = h.log.Next()
			return h.called(h.log.Append(h.taken()), hasWritten, api.Event{Kind: api.EvWrite, N: uint64(len(h.batch))})
		}},
		{stands(hasWritten, true), func() api.Event {
			return h.called(h.log.Sync(), hasSynced, api.Event{Kind: api.EvSync})
		}},
		{stands(hasSynced, true), func() api.Event {
			h.now, _ = h.now.Apply(api.Batch{First: h.first, Entries: h.taken()})
			h.at = hasPublished
			return api.Event{Kind: api.EvPublish, N: h.now.Size()}
		}},
		{stands(hasPublished, true), func() api.Event {
			return h.next(api.Answer{E: api.OK, Index: h.first + uint64(h.replied)})
		}},
		{stands(hasFailed, true), func() api.Event { return h.next(api.Answer{E: api.ErrFailed}) }},
		{stands(isIdle, h.bad() && waiting), func() api.Event {
			return h.replies(h.off().client, api.Answer{E: api.ErrFailed})
		}},
	}
}

func (h *hall) off() wish {
	r := h.queue[0]
	h.queue = slices.Clone(h.queue[1:])
	if len(h.line) > 0 {
		h.queue, h.line = append(h.queue, h.line[0]), slices.Clone(h.line[1:])
	}
	return r
}

func (h *hall) take() api.Event {
	r := h.off()
	h.batch = append(h.batch, r)
	return api.Event{Kind: api.EvTake, To: r.client, N: uint64(len(h.batch))}
}

func (h *hall) taken() []api.Entry {
	var entries []api.Entry
	for _, r := range h.batch {
		entries = append(entries, r.entry)
	}
	return entries
}

func (h *hall) called(e api.Errno, at where, v api.Event) api.Event {
	switch e {
	case api.OK:
		h.at = at
		return v
	case api.ErrIO:
		h.at = hasFailed
		return api.Event{Kind: api.EvFail}
	case api.ErrCrash:
		return api.Event{Kind: api.EvCrash}
	}
	panic("the log answered " + strconv.Itoa(int(e)))
}

func (h *hall) next(a api.Answer) api.Event {
	r := h.batch[h.replied]
	h.replied++
	if h.replied == len(h.batch) {
		h.at = isIdle
	}
	return h.replies(r.client, a)
}

func (h *hall) replies(client int, a api.Answer) api.Event {
	h.people[client-1].reply = &a
	return api.Event{Kind: api.EvReply, To: client, N: a.Index, Answer: a}
}

func (h *hall) offer(r wish) api.Errno {
	if e := entry.Check(r.entry); e != api.OK {
		return e
	}
	if h.bad() {
		return api.ErrFailed
	}
	if h.closed {
		return api.ErrClosed
	}
	if len(h.queue) == h.config.Places || len(h.line) > 0 {
		h.line = append(h.line, r)
	} else {
		h.queue = append(h.queue, r)
	}
	return api.OK
}

func (h *hall) client(p *person) []row {
	is := func(at where) func() bool { return func() bool { return p.at == at } }
	return []row{
		{func() bool { return p.at == isBetween && p.call < len(p.program) }, func() api.Event {
			p.at = hasBegun
			return p.event(api.EvBegin, api.Answer{})
		}},
		{func() bool { return p.at == hasBegun && p.now().Kind == api.CallAppend }, func() api.Event {
			return p.sent(h.offer(wish{p.number, p.now().Entry}), hasOffered)
		}},
		{func() bool { return p.at == hasOffered && p.reply != nil }, func() api.Event {
			a := *p.reply
			p.reply = nil
			return p.over(a)
		}},
		{func() bool { return p.at == hasBegun && p.now().Kind == api.CallClose }, func() api.Event {
			was := h.closed
			h.closed = true
			if was {
				return p.sent(api.ErrClosed, hasShut)
			}
			return p.sent(api.OK, hasShut)
		}},
		{func() bool { return p.at == hasShut && h.at == hasEnded }, func() api.Event { return p.over(api.Answer{}) }},
		{is(hasBegun), func() api.Event { return p.over(h.read(p)) }},
	}
}

func (h *hall) read(p *person) (a api.Answer) {
	switch call := p.now(); call.Kind {
	case api.CallPin:
		p.pinned = h.now
		a.Root = h.now.Root()
	case api.CallGet:
		a.Value, a.Present, a.E = p.pinned.Get(call.Key)
	case api.CallEntry:
		a.Receipt, a.E = p.pinned.ReceiptEntry(call.N)
	case api.CallKey:
		a.Receipt, a.E = p.pinned.ReceiptKey(call.Key)
	case api.CallSince:
		a.Receipt, a.E = p.pinned.ReceiptSince(call.N)
	default:
		a.E = api.ErrArg
	}
	return a
}

func (p *person) now() api.Call { return p.program[p.call] }

func (p *person) event(kind byte, a api.Answer) api.Event {
	return api.Event{Actor: p.number, Kind: kind, Call: p.call, Answer: a}
}

func (p *person) over(a api.Answer) api.Event {
	v := p.event(api.EvEnd, a)
	p.at = isBetween
	p.call++
	return v
}

func (p *person) sent(e api.Errno, at where) api.Event {
	if e != api.OK {
		return p.over(api.Answer{E: e})
	}
	p.at = at
	return p.event(api.EvSend, api.Answer{})
}

// goOn lets the actor do its step, and tells whether there was one.
func (h *hall) goOn(actor int) bool {
	pick := h.pick
	h.pick++
	if h.log.State() == api.ErrCrash {
		return false
	}
	rows := h.sequencer()
	if actor > 0 {
		rows = h.client(h.people[actor-1])
	}
	for _, r := range rows {
		if r.ready() {
			v := r.step()
			v.Pick = pick
			h.events = append(h.events, v)
			return true
		}
	}
	return false
}

func (h *hall) settle() {
	picks := 0
	for moved := true; moved; {
		moved = false
		for actor := range len(h.people) + 1 {
			if picks == api.MaxCalm {
				return
			}
			picks++
			if h.goOn(actor) {
				moved = true
			}
		}
	}
}

func outside(n, most int) bool { return n < 1 || n > most }

// byWords is Play as the chapter has it.
func byWords(d *disk.Disk, w, limit int, p epoch.Plan) epoch.Report {
	if outside(w, api.MaxWidth) || outside(limit, api.MaxLimit) || outside(p.Config.Batch, api.MaxBatch) || outside(p.Config.Places, api.MaxCap) || len(p.Programs) > api.MaxClients {
		return epoch.Report{E: api.ErrArg}
	}
	if d == nil {
		return epoch.Report{E: api.ErrNone}
	}
	l, s, e := replay.Recover(d, w, limit)
	if e != api.OK {
		return epoch.Report{E: e}
	}
	h := &hall{config: p.Config, log: l, now: s, at: isIdle}
	for i, program := range p.Programs {
		h.people = append(h.people, &person{number: i + 1, program: program, pinned: s, at: isBetween})
	}
	for _, number := range p.Picks {
		h.goOn(meant(number, len(h.people)+1))
	}
	if p.Calm {
		h.settle()
	}
	return epoch.Report{Start: s.Root(), Events: h.events, End: h.now.Root(), State: l.State()}
}

// meant answers the number modulo n, from 0 up.
func meant(number, n int) int {
	if number %= n; number < 0 {
		return number + n
	}
	return number
}

// plain answers a report with nil for empty lists, which are the same.
func plain(r epoch.Report) epoch.Report {
	var events []api.Event
	for _, v := range r.Events {
		v.Answer.Value = append([]byte(nil), v.Answer.Value...)
		v.Answer.Receipt = append([]byte(nil), v.Answer.Receipt...)
		events = append(events, v)
	}
	r.Events = events
	return r
}

func wantSame(t testing.TB, got, want epoch.Report) {
	t.Helper()
	got, want = plain(got), plain(want)
	if reflect.DeepEqual(got, want) {
		return
	}
	for i := range min(len(got.Events), len(want.Events)) {
		if !reflect.DeepEqual(got.Events[i], want.Events[i]) {
			t.Fatalf("the event %d: %v, want %v", i, got.Events[i], want.Events[i])
		}
	}
	t.Fatalf("E %d, %d events, from %d to %d, State %d; want E %d, %d events, from %d to %d, State %d",
		got.E, len(got.Events), got.Start.Size, got.End.Size, got.State, want.E, len(want.Events), want.Start.Size, want.End.Size, want.State)
}

func wantSameDisks(t testing.TB, a, b *disk.Disk) {
	t.Helper()
	if !reflect.DeepEqual(a.Files(), b.Files()) || !slices.Equal(a.Names(), b.Names()) || a.Ops() != b.Ops() || a.Off() != b.Off() {
		t.Fatalf("the disks are not the same: %d and %d files, Ops %d and %d, Off %v and %v", len(a.Files()), len(b.Files()), a.Ops(), b.Ops(), a.Off(), b.Off())
	}
}

func newDisk(t testing.TB) *disk.Disk {
	t.Helper()
	d, e := disk.New(64)
	if e != api.OK {
		t.Fatalf("disk.New: %d", e)
	}
	return d
}

func put(key, value string) api.Entry {
	return api.Entry{Kind: api.Put, Key: []byte(key), Value: []byte(value)}
}

func del(key string) api.Entry { return api.Entry{Kind: api.Delete, Key: []byte(key)} }

func appends(e api.Entry) api.Call { return api.Call{Kind: api.CallAppend, Entry: e} }

func pins() api.Call { return api.Call{Kind: api.CallPin} }

func gets(key string) api.Call { return api.Call{Kind: api.CallGet, Key: []byte(key)} }

func entryAt(n uint64) api.Call { return api.Call{Kind: api.CallEntry, N: n} }

func keyOf(key string) api.Call { return api.Call{Kind: api.CallKey, Key: []byte(key)} }

func since(n uint64) api.Call { return api.Call{Kind: api.CallSince, N: n} }

func closes() api.Call { return api.Call{Kind: api.CallClose} }

// anyEntry answers an entry, and of the rough ones now and then one that may not be.
func anyEntry(r *rand.Rand, rough bool) api.Entry {
	key := "k" + strconv.Itoa(r.Intn(5))
	switch n := r.Intn(12); {
	case n < 3:
		return del(key)
	case n == 3 && rough:
		return api.Entry{Kind: byte(r.Intn(256)), Key: make([]byte, 63+r.Intn(3)), Value: make([]byte, r.Intn(300))}
	}
	return put(key, strconv.Itoa(r.Intn(1000)))
}

// anyCall answers a call; the fields that its kind does not name are set too, and have to be let be.
func anyCall(r *rand.Rand, rough bool) api.Call {
	c := api.Call{Kind: []byte{1, 1, 1, 1, 1, 2, 2, 3, 3, 4, 5, 6}[r.Intn(12)], Entry: anyEntry(r, rough), Key: []byte("k" + strconv.Itoa(r.Intn(6))), N: uint64(r.Intn(8))}
	if !rough {
		return c
	}
	switch r.Intn(40) {
	case 0:
		c.Kind = byte(r.Intn(256))
	case 1:
		c.Kind = api.CallClose
	case 2:
		c.Key = make([]byte, 63+r.Intn(3))
	case 3:
		c.N = r.Uint64()
	}
	return c
}

func anyPrograms(r *rand.Rand, clients int, rough bool) [][]api.Call {
	programs := make([][]api.Call, clients)
	for i := range programs {
		for range r.Intn(12) {
			programs[i] = append(programs[i], anyCall(r, rough))
		}
	}
	return programs
}

// anyPicks answers picks of n actors, written in many ways.
func anyPicks(r *rand.Rand, n, most int) []int {
	var picks []int
	for range r.Intn(most) {
		pick := r.Intn(n)
		switch r.Intn(20) {
		case 0:
			pick -= n * r.Intn(1000)
		case 1:
			pick += n * r.Intn(1000)
		case 2:
			pick = int(r.Uint64())
		case 3:
			pick = []int{math.MaxInt, math.MinInt, -1}[r.Intn(3)]
		}
		picks = append(picks, pick)
	}
	return picks
}

func anyPlan(r *rand.Rand) epoch.Plan {
	clients := r.Intn(6)
	return epoch.Plan{
		Config:   seqr.Config{Batch: 1 + r.Intn(4), Places: 1 + r.Intn(3)},
		Programs: anyPrograms(r, clients, true),
		Picks:    anyPicks(r, clients+1, 200),
		Calm:     r.Intn(2) == 0,
	}
}

func anyTrouble(r *rand.Rand) (faults []disk.Fault, crash int) {
	for range r.Intn(3) {
		faults = append(faults, disk.Fault{At: 1 + r.Intn(40), Keep: r.Intn(30)})
	}
	if r.Intn(4) == 0 {
		crash = 1 + r.Intn(40)
	}
	return faults, crash
}

func anyFate(r *rand.Rand, d *disk.Disk) disk.Fate {
	f := disk.Fate{Names: r.Intn(3)}
	for _, file := range d.Files() {
		f.Keeps = append(f.Keeps, disk.Keep{Name: file.Name, Bytes: r.Intn(60), Torn: r.Intn(2) == 0})
	}
	return f
}

// The table and the chapter's words, written a second time, against Play: epochs one behind the other over one disk, with refusals and cuts of power.
func TestP25_Words(t *testing.T) {
	ended := map[api.Errno]int{}
	for seed := range int64(400) {
		random := rand.New(rand.NewSource(seed))
		w, limit := 1+random.Intn(32), 1+random.Intn(300)
		a, b := newDisk(t), newDisk(t)
		for range 4 {
			if random.Intn(3) > 0 { // else what is left of the plan before stays
				faults, crash := anyTrouble(random)
				a.Plan(faults, crash)
				b.Plan(faults, crash)
			}
			p := anyPlan(random)
			got, want := epoch.Play(a, w, limit, p), byWords(b, w, limit, p)
			wantSame(t, got, want)
			wantSameDisks(t, a, b)
			ended[got.E]++
			ended[got.State]++
			if random.Intn(2) == 0 {
				fate := anyFate(random, a)
				a.Restart(fate)
				b.Restart(fate)
			}
		}
	}
	for _, e := range []api.Errno{api.OK, api.ErrIO, api.ErrCrash} {
		if ended[e] < 50 {
			t.Errorf("only %d epochs ended with %d", ended[e], e)
		}
	}
}

// deed is one call of a client: the places of its first and its last event among all events, and its answer.
type deed struct {
	call       api.Call
	begin, end int
	answer     api.Answer
	pinned     uint64 // the size that was pinned when it ended
}

// deeds answers the calls that have ended.
func deeds(p epoch.Plan, r epoch.Report) []deed {
	var all []deed
	begins := map[int]int{}
	pinned := map[int]uint64{}
	for i := range p.Programs {
		pinned[i+1] = r.Start.Size
	}
	for at, v := range r.Events {
		switch v.Kind {
		case api.EvBegin:
			begins[v.Actor] = at
		case api.EvEnd:
			call := p.Programs[v.Actor-1][v.Call]
			if call.Kind == api.CallPin {
				pinned[v.Actor] = v.Answer.Root.Size
			}
			all = append(all, deed{call, begins[v.Actor], at, v.Answer, pinned[v.Actor]})
		}
	}
	return all
}

func sameEntry(a, b api.Entry) bool {
	return a.Kind == b.Kind && bytes.Equal(a.Key, b.Key) && bytes.Equal(a.Value, b.Value)
}

// valueOf answers the key's value in the map of the entries.
func valueOf(entries []api.Entry, key []byte) ([]byte, bool) {
	for _, e := range slices.Backward(entries) {
		if bytes.Equal(e.Key, key) {
			return e.Value, e.Kind == api.Put
		}
	}
	return nil, false
}
