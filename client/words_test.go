package client_test

import (
	"bytes"
	"math/rand"
	"reflect"
	"slices"
	"strconv"
	"testing"

	"notary/api"
	"notary/client"
	"notary/digest"
	"notary/disk"
	"notary/proof"
	"notary/replay"
	"notary/seqr"
	"notary/snap"
)

// where are the places of the table, by its words.
type where string

const (
	isBetween  where = "between calls"
	hasBegun   where = "has begun"
	hasOffered where = "its entry is offered"
	hasShut    where = "has shut the sequencer"
)

// person is a client as DOC.md's table has it, row by row.
type person struct {
	number  int
	program []api.Call
	seqr    *seqr.Seqr
	pinned  *snap.Snap
	at      where
	call    int
}

// row is a row of the table: where the client stands, when it is ready, and its step.
type row struct {
	at    where
	kinds []byte // of the call that was begun; nil: whatever it is
	ready func(p *person) bool
	step  func(p *person) api.Event
}

func always(*person) bool { return true }

func table() []row {
	return []row{
		{isBetween, nil, func(p *person) bool { return p.call < len(p.program) }, func(p *person) api.Event {
			p.at = hasBegun
			return p.event(api.EvBegin, api.Answer{})
		}},
		{hasBegun, []byte{api.CallAppend}, always, func(p *person) api.Event {
			if e := p.seqr.Offer(seqr.Request{Client: p.number, Entry: p.now().Entry}); e != api.OK {
				return p.over(api.Answer{E: e})
			}
			p.at = hasOffered
			return p.event(api.EvSend, api.Answer{})
		}},
		{hasBegun, []byte{api.CallClose}, always, func(p *person) api.Event {
			if e := p.seqr.Shut(); e != api.OK {
				return p.over(api.Answer{E: e})
			}
			p.at = hasShut
			return p.event(api.EvSend, api.Answer{})
		}},
		{hasBegun, []byte{api.CallPin}, always, func(p *person) api.Event {
			p.pinned = p.seqr.Now()
			return p.over(api.Answer{E: api.OK, Root: p.pinned.Root()})
		}},
		{hasBegun, []byte{api.CallGet}, always, func(p *person) api.Event {
			v, present, e := p.pinned.Get(p.now().Key)
			return p.over(api.Answer{E: e, Value: v, Present: present})
		}},
		{hasBegun, []byte{api.CallEntry}, always, func(p *person) api.Event {
			return p.shows(p.pinned.ReceiptEntry(p.now().N))
		}},
		{hasBegun, []byte{api.CallKey}, always, func(p *person) api.Event {
			return p.shows(p.pinned.ReceiptKey(p.now().Key))
		}},
		{hasBegun, []byte{api.CallSince}, always, func(p *person) api.Event {
			return p.shows(p.pinned.ReceiptSince(p.now().N))
		}},
		{hasBegun, nil, always, func(p *person) api.Event { return p.over(api.Answer{E: api.ErrArg}) }},
		{hasOffered, nil, func(p *person) bool { return p.seqr.Has(p.number) }, func(p *person) api.Event {
			a, _ := p.seqr.Collect(p.number)
			return p.over(a)
		}},
		{hasShut, nil, func(p *person) bool { return p.seqr.Ended() }, func(p *person) api.Event {
			return p.over(api.Answer{E: api.OK})
		}},
	}
}

func (p *person) now() api.Call { return p.program[p.call] }

func (p *person) event(kind byte, a api.Answer) api.Event {
	return api.Event{Actor: p.number, Kind: kind, Call: p.call, Answer: a}
}

func (p *person) over(a api.Answer) api.Event {
	v := p.event(api.EvEnd, a)
	p.at = isBetween
	p.call++
	return v
}

func (p *person) shows(receipt []byte, e api.Errno) api.Event {
	return p.over(api.Answer{E: e, Receipt: receipt})
}

func (p *person) done() bool { return p.at == isBetween && p.call == len(p.program) }

// row answers the row by which a step is done now; nil, if there is none.
func (p *person) row() *row {
	if p.seqr.State() == api.ErrCrash {
		return nil
	}
	for _, r := range table() {
		if r.at == p.at && (r.kinds == nil || slices.Contains(r.kinds, p.now().Kind)) {
			if !r.ready(p) {
				return nil
			}
			return &r
		}
	}
	return nil
}

func (p *person) step() api.Event {
	if r := p.row(); r != nil {
		return r.step(p)
	}
	return api.Event{}
}

// side is a sequencer and its disk.
type side struct {
	disk *disk.Disk
	seqr *seqr.Seqr
}

func sideOf(t testing.TB, c seqr.Config, w, limit int, d *disk.Disk, faults []disk.Fault, crash int) side {
	t.Helper()
	l, s, e := replay.Recover(d, w, limit)
	if e != api.OK {
		t.Fatalf("Recover: %d", e)
	}
	d.Plan(faults, crash)
	q, e := seqr.New(c, l, s)
	if e != api.OK {
		t.Fatalf("seqr.New(%v): %d", c, e)
	}
	return side{d, q}
}

func newDisk(t testing.TB) *disk.Disk {
	t.Helper()
	d, e := disk.New(64)
	if e != api.OK {
		t.Fatalf("disk.New: %d", e)
	}
	return d
}

// plain answers an event with empty lists for nil ones, which are the same.
func plain(v api.Event) api.Event {
	v.Answer.Value = append([]byte{}, v.Answer.Value...)
	v.Answer.Receipt = append([]byte{}, v.Answer.Receipt...)
	return v
}

func sameEvent(a, b api.Event) bool { return reflect.DeepEqual(plain(a), plain(b)) }

// room is clients at one sequencer, and their twins by the words at its twin.
type room struct {
	t       *testing.T
	one     side
	two     side
	clients []*client.Client
	words   []*person
	told    []api.Event
}

func enter(t *testing.T, one, two side, programs [][]api.Call) *room {
	t.Helper()
	r := &room{t: t, one: one, two: two}
	for i, program := range programs {
		r.clients = append(r.clients, made(t, i+1, program, one.seqr))
		r.words = append(r.words, &person{number: i + 1, program: program, seqr: two.seqr, pinned: two.seqr.Now(), at: isBetween})
	}
	return r
}

// pick lets an actor go on: 0 is the sequencer.
func (r *room) pick(actor int) {
	r.t.Helper()
	var got, want api.Event
	if actor == 0 {
		got, want = r.one.seqr.Step(), r.two.seqr.Step()
	} else {
		got, want = r.clients[actor-1].Step(), r.words[actor-1].step()
	}
	if !sameEvent(got, want) {
		r.t.Fatalf("the actor %d: %v, want %v", actor, got, want)
	}
	if got.Kind != 0 {
		r.told = append(r.told, got)
	}
	r.look()
}

// look holds all that the clients tell against the words; twice, as looking changes nothing.
func (r *room) look() {
	r.t.Helper()
	for i, c := range r.clients {
		p := r.words[i]
		for range 2 {
			if got, want := c.Ready(), p.row() != nil; got != want {
				r.t.Fatalf("Ready of %d where it %s: %v, want %v", p.number, p.at, got, want)
			}
			if got, want := c.Done(), p.done(); got != want {
				r.t.Fatalf("Done of %d where it %s: %v, want %v", p.number, p.at, got, want)
			}
			if got, want := c.Pinned(), p.pinned.Root(); got != want {
				r.t.Fatalf("Pinned of %d where it %s: %v, want %v", p.number, p.at, got, want)
			}
		}
	}
	if r.one.seqr.Ready() != r.two.seqr.Ready() || r.one.seqr.State() != r.two.seqr.State() || r.one.disk.Ops() != r.two.disk.Ops() {
		r.t.Fatal("the sequencers are not the same")
	}
}

// calm picks all in turn till nobody is ready.
func (r *room) calm() {
	r.t.Helper()
	for moved := true; moved; {
		before := len(r.told)
		for actor := range len(r.clients) + 1 {
			r.pick(actor)
		}
		moved = len(r.told) > before
	}
}

func made(t testing.TB, number int, program []api.Call, s *seqr.Seqr) *client.Client {
	t.Helper()
	c, e := client.New(number, program, s)
	if e != api.OK || c == nil {
		t.Fatalf("New(%d): %v, %d", number, c, e)
	}
	return c
}

func put(key, value string) api.Entry {
	return api.Entry{Kind: api.Put, Key: []byte(key), Value: []byte(value)}
}

func del(key string) api.Entry { return api.Entry{Kind: api.Delete, Key: []byte(key)} }

func appends(e api.Entry) api.Call { return api.Call{Kind: api.CallAppend, Entry: e} }

func pins() api.Call { return api.Call{Kind: api.CallPin} }

func gets(key string) api.Call { return api.Call{Kind: api.CallGet, Key: []byte(key)} }

func entryAt(n uint64) api.Call { return api.Call{Kind: api.CallEntry, N: n} }

func keyOf(key string) api.Call { return api.Call{Kind: api.CallKey, Key: []byte(key)} }

func since(n uint64) api.Call { return api.Call{Kind: api.CallSince, N: n} }

func closes() api.Call { return api.Call{Kind: api.CallClose} }

// anyEntry answers an entry, and of the rough ones now and then one that may not be.
func anyEntry(r *rand.Rand, rough bool) api.Entry {
	key := "k" + strconv.Itoa(r.Intn(5))
	switch n := r.Intn(12); {
	case n < 3:
		return del(key)
	case n == 3 && rough:
		return api.Entry{Kind: byte(r.Intn(256)), Key: make([]byte, 63+r.Intn(3)), Value: make([]byte, r.Intn(300))}
	}
	return put(key, strconv.Itoa(r.Intn(1000)))
}

// anyCall answers a call; the fields that its kind does not name are set too, and have to be let be.
func anyCall(r *rand.Rand, rough bool) api.Call {
	c := api.Call{Kind: []byte{1, 1, 1, 1, 2, 2, 2, 3, 3, 4, 5, 6}[r.Intn(12)], Entry: anyEntry(r, rough), Key: []byte("k" + strconv.Itoa(r.Intn(6))), N: uint64(r.Intn(8))}
	if !rough {
		return c
	}
	switch r.Intn(20) {
	case 0:
		c.Kind = byte(r.Intn(256))
	case 1:
		c.Kind = api.CallClose
	case 2:
		c.Key = make([]byte, 63+r.Intn(3))
	case 3:
		c.N = r.Uint64()
	}
	return c
}

func anyPrograms(r *rand.Rand, rough bool) [][]api.Call {
	programs := make([][]api.Call, 1+r.Intn(4))
	for i := range programs {
		for range r.Intn(12) {
			programs[i] = append(programs[i], anyCall(r, rough))
		}
	}
	return programs
}

func anyPlan(r *rand.Rand) (faults []disk.Fault, crash int) {
	if r.Intn(3) == 0 {
		faults = []disk.Fault{{At: 1 + r.Intn(25), Keep: r.Intn(30)}}
	}
	if r.Intn(3) == 0 {
		crash = 1 + r.Intn(25)
	}
	return faults, crash
}

// The table and the chapter's words, written a second time, against clients: epochs one behind the other over one disk, with refusals and cuts of power.
func TestP24_Words(t *testing.T) {
	for seed := range int64(300) {
		random := rand.New(rand.NewSource(seed))
		w, limit := 1+random.Intn(32), 1+random.Intn(300)
		a, b := newDisk(t), newDisk(t)
		for range 3 {
			c := seqr.Config{Batch: 1 + random.Intn(4), Places: 1 + random.Intn(3)}
			faults, crash := anyPlan(random)
			r := enter(t, sideOf(t, c, w, limit, a, faults, crash), sideOf(t, c, w, limit, b, faults, crash), anyPrograms(random, true))
			r.look()
			for range random.Intn(150) {
				r.pick(random.Intn(len(r.clients) + 1))
			}
			if random.Intn(2) == 0 {
				r.calm()
			}
			a.Restart(disk.Fate{Names: seedNames(seed)})
			b.Restart(disk.Fate{Names: seedNames(seed)})
		}
	}
}

func seedNames(seed int64) int { return int(seed % 3) }

// life is one call of a client: the places of its first and its last event among all events, and its answer.
type life struct {
	call       api.Call
	begin, end int
	answer     api.Answer
	pinned     uint64 // the size that was pinned when it ended
}

// lives answers the calls that have ended.
func (r *room) lives() []life {
	var all []life
	begins := map[int]int{}
	pinned := map[int]uint64{}
	for at, v := range r.told {
		switch v.Kind {
		case api.EvBegin:
			begins[v.Actor] = at
		case api.EvEnd:
			call := r.words[v.Actor-1].program[v.Call]
			if call.Kind == api.CallPin {
				pinned[v.Actor] = v.Answer.Root.Size
			}
			all = append(all, life{call, begins[v.Actor], at, v.Answer, pinned[v.Actor]})
		}
	}
	return all
}

// In runs without a refusal: one order of Appends and Pins for all, and what is answered is true of the log.
func TestP3_OneOrder(t *testing.T) {
	for seed := range int64(200) {
		random := rand.New(rand.NewSource(seed))
		c := seqr.Config{Batch: 1 + random.Intn(4), Places: 1 + random.Intn(3)}
		r := enter(t, sideOf(t, c, 8, 200, newDisk(t), nil, 0), sideOf(t, c, 8, 200, newDisk(t), nil, 0), anyPrograms(random, false))
		for range random.Intn(200) {
			r.pick(random.Intn(len(r.clients) + 1))
		}
		r.calm()
		s := r.one.seqr.Now()
		var log []api.Entry
		for i := range s.Size() {
			e, _ := s.Entry(i)
			log = append(log, e)
		}
		lives := r.lives()
		appended := 0
		for _, one := range lives {
			checkTruth(t, one, log)
			if one.call.Kind == api.CallAppend {
				appended++
			}
			for _, other := range lives {
				if one.end < other.begin {
					checkOrder(t, one, other)
				}
			}
		}
		if appended != len(log) {
			t.Errorf("%d: %d Appends, %d entries", seed, appended, len(log))
		}
	}
}

// checkOrder looks at two calls of which one ended ahead of the other's beginning.
func checkOrder(t *testing.T, one, other life) {
	t.Helper()
	switch first, second := one.call.Kind, other.call.Kind; {
	case first == api.CallAppend && second == api.CallAppend:
		if one.answer.Index >= other.answer.Index {
			t.Errorf("the Append %d ended ahead of %d", one.answer.Index, other.answer.Index)
		}
	case first == api.CallAppend && second == api.CallPin:
		if one.answer.Index >= other.answer.Root.Size {
			t.Errorf("the Append %d ended, and a pin has the size %d", one.answer.Index, other.answer.Root.Size)
		}
	case first == api.CallPin && second == api.CallPin:
		if one.answer.Root.Size > other.answer.Root.Size {
			t.Errorf("a pin of the size %d behind one of %d", other.answer.Root.Size, one.answer.Root.Size)
		}
	}
}

// checkTruth holds an answer against the log, whose first entries, as many as are pinned, alone count.
func checkTruth(t *testing.T, l life, log []api.Entry) {
	t.Helper()
	roots, _ := replay.Roots(8, log)
	n := l.pinned
	sealed, _ := digest.Root(8, roots[n])
	claim := api.Claim{Root: sealed}
	switch l.call.Kind {
	case api.CallAppend:
		if l.answer.E != api.OK || !sameEntry(log[l.answer.Index], l.call.Entry) {
			t.Errorf("Append: %v", l.answer)
		}
		return
	case api.CallPin:
		if l.answer.Root != roots[n] {
			t.Errorf("Pin: %v", l.answer)
		}
		return
	case api.CallGet:
		v, has := valueOf(log[:n], l.call.Key)
		if l.answer.E != api.OK || l.answer.Present != has || !bytes.Equal(l.answer.Value, v) {
			t.Errorf("Get of %s: %v", l.call.Key, l.answer)
		}
		return
	case api.CallKey:
		v, has := valueOf(log[:n], l.call.Key)
		claim.Kind, claim.Key, claim.Value, claim.Present = api.ClaimKey, l.call.Key, v, has
	case api.CallEntry:
		if l.call.N >= n {
			wantError(t, l, api.ErrRange)
			return
		}
		claim.Kind, claim.Index, claim.Entry = api.ClaimEntry, l.call.N, log[l.call.N]
	case api.CallSince:
		if l.call.N > n {
			wantError(t, l, api.ErrRange)
			return
		}
		if l.answer.E == api.ErrNone { // a size that no batch left
			return
		}
		claim.Kind = api.ClaimSince
		claim.Old, _ = digest.Root(8, roots[l.call.N])
	}
	if e := proof.Verify(8, claim, l.answer.Receipt); l.answer.E != api.OK || e != api.OK {
		t.Errorf("a receipt of the kind %d: %d, Verify %d", l.call.Kind, l.answer.E, e)
	}
}

func wantError(t *testing.T, l life, e api.Errno) {
	t.Helper()
	if !reflect.DeepEqual(l.answer, api.Answer{E: e}) {
		t.Errorf("%v: %v, want %d", l.call, l.answer, e)
	}
}

func sameEntry(a, b api.Entry) bool {
	return a.Kind == b.Kind && bytes.Equal(a.Key, b.Key) && bytes.Equal(a.Value, b.Value)
}

// valueOf answers the key's value in the map of the entries.
func valueOf(entries []api.Entry, key []byte) ([]byte, bool) {
	for _, e := range slices.Backward(entries) {
		if bytes.Equal(e.Key, key) {
			return e.Value, e.Kind == api.Put
		}
	}
	return nil, false
}
