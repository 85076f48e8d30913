package audit_test

import (
	"bytes"
	"math"
	"math/rand"
	"reflect"
	"slices"
	"strconv"
	"testing"

	"notary/api"
	"notary/audit"
	"notary/digest"
	"notary/disk"
	"notary/epoch"
	"notary/proof"
	"notary/replay"
	"notary/segment"
	"notary/seqr"
	"notary/world"
)

// history is all that Check is given.
type history struct {
	w        int
	programs [][]api.Call
	entries  []api.Entry
	report   epoch.Report
}

func (h history) check() []audit.Finding {
	return audit.Check(h.w, h.programs, h.entries, h.report)
}

// standing is what the words have Check know of a client.
type standing struct {
	next        int
	begun, sent bool
	size, floor uint64
}

// wordsCheck is Check as the chapter's words have it, with roots by replay and the map by going through the entries.
type wordsCheck struct {
	history
	roots   []api.Root
	count   uint64
	floor   uint64
	clients map[int]*standing
	indices []uint64
}

func byWords(h history) []audit.Finding {
	roots, e := replay.Roots(h.w, h.entries)
	if e != api.OK {
		return nil
	}
	k := wordsCheck{history: h, roots: roots, count: uint64(len(h.entries)), floor: h.report.Start.Size, clients: map[int]*standing{}}
	for i := range h.programs {
		k.clients[i+1] = &standing{size: h.report.Start.Size}
	}
	var found []audit.Finding
	for i, v := range h.report.Events {
		if !k.shaped(i, v) {
			found = append(found, audit.Finding{Event: i, Rule: 5})
			continue
		}
		if rule := k.look(v); rule != 0 {
			found = append(found, audit.Finding{Event: i, Rule: rule})
		}
	}
	return found
}

func (k *wordsCheck) shaped(i int, v api.Event) bool {
	if v.Pick < 0 || i > 0 && v.Pick <= k.report.Events[i-1].Pick {
		return false
	}
	if v.Actor == 0 {
		return bytes.IndexByte([]byte{api.EvTake, api.EvWrite, api.EvSync, api.EvPublish, api.EvReply, api.EvFail, api.EvStop, api.EvCrash}, v.Kind) >= 0
	}
	if v.Actor < 1 || v.Actor > len(k.programs) {
		return false
	}
	c, program := k.clients[v.Actor], k.programs[v.Actor-1]
	if v.Call != c.next || v.Call >= len(program) {
		return false
	}
	toSeqr := program[v.Call].Kind == api.CallAppend || program[v.Call].Kind == api.CallClose
	switch v.Kind {
	case api.EvBegin:
		return !c.begun
	case api.EvSend:
		return c.begun && !c.sent && toSeqr
	case api.EvEnd:
		if toSeqr && v.Answer.E == api.OK && !c.sent {
			return false
		}
		return c.begun
	}
	return false
}

func (k *wordsCheck) look(v api.Event) int {
	if v.Actor == 0 {
		return 0
	}
	c := k.clients[v.Actor]
	switch v.Kind {
	case api.EvBegin:
		c.begun = true
		c.floor = k.floor
		return 0
	case api.EvSend:
		c.sent = true
		return 0
	}
	call := k.programs[v.Actor-1][c.next]
	c.next, c.begun, c.sent = c.next+1, false, false
	switch {
	case call.Kind == api.CallAppend && v.Answer.E == api.OK && !k.order(c, call, v.Answer):
		return 1
	case call.Kind == api.CallPin && !k.pin(c, v.Answer):
		return 2
	case call.Kind == api.CallGet && !k.get(c, call, v.Answer):
		return 3
	case call.Kind >= api.CallEntry && call.Kind <= api.CallSince && !k.receipt(c, call, v.Answer):
		return 4
	case (call.Kind == 0 || call.Kind > api.CallClose) && v.Answer.E != api.ErrArg:
		return 3
	}
	return 0
}

func (k *wordsCheck) order(c *standing, call api.Call, a api.Answer) bool {
	right := true
	right = right && a.Index >= k.report.Start.Size
	right = right && a.Index < k.count
	right = right && a.Index >= c.floor
	right = right && !slices.Contains(k.indices, a.Index)
	right = right && sameEntry(k.entries[a.Index], call.Entry)
	k.indices = append(k.indices, a.Index)
	if a.Index < k.count && k.floor < a.Index+1 {
		k.floor = a.Index + 1
	}
	return right
}

func (k *wordsCheck) pin(c *standing, a api.Answer) bool {
	n := a.Root.Size
	right := a.E == api.OK && n >= c.floor && n <= k.count && a.Root == k.roots[n]
	if n <= k.count {
		c.size = n
		if k.floor < n {
			k.floor = n
		}
	}
	return right
}

// has answers what the map of the first n entries has for the key.
func (k *wordsCheck) has(n uint64, key []byte) ([]byte, bool) {
	for i := n; i > 0; i-- {
		if e := k.entries[i-1]; bytes.Equal(e.Key, key) {
			return e.Value, e.Kind == api.Put
		}
	}
	return nil, false
}

func (k *wordsCheck) get(c *standing, call api.Call, a api.Answer) bool {
	switch {
	case c.size > k.count:
		return true
	case len(call.Key) > 64:
		return a.E == api.ErrLong && len(a.Value) == 0 && !a.Present
	}
	value, present := k.has(c.size, call.Key)
	return a.E == api.OK && a.Present == present && bytes.Equal(a.Value, value)
}

func (k *wordsCheck) sealed(n uint64) api.Digest {
	d, _ := digest.Root(k.w, k.roots[n])
	return d
}

func (k *wordsCheck) receipt(c *standing, call api.Call, a api.Answer) bool {
	n := c.size
	if n > k.count {
		return true
	}
	beyond := call.Kind == api.CallEntry && call.N >= n || call.Kind == api.CallSince && call.N > n
	long := call.Kind == api.CallKey && len(call.Key) > 64
	switch a.E {
	case api.OK:
		return !beyond && !long && proof.Verify(k.w, k.claim(n, call), a.Receipt) == api.OK
	case api.ErrRange:
		return beyond && len(a.Receipt) == 0
	case api.ErrLong:
		return long && len(a.Receipt) == 0
	case api.ErrNone:
		return call.Kind == api.CallSince && call.N < n && len(a.Receipt) == 0
	}
	return false
}

func (k *wordsCheck) claim(n uint64, call api.Call) api.Claim {
	switch call.Kind {
	case api.CallEntry:
		return api.Claim{Kind: 1, Root: k.sealed(n), Index: call.N, Entry: k.entries[call.N]}
	case api.CallKey:
		value, present := k.has(n, call.Key)
		return api.Claim{Kind: 2, Root: k.sealed(n), Key: call.Key, Value: value, Present: present}
	}
	return api.Claim{Kind: 3, Root: k.sealed(n), Old: k.sealed(call.N)}
}

func sameEntry(a, b api.Entry) bool {
	return a.Kind == b.Kind && bytes.Equal(a.Key, b.Key) && bytes.Equal(a.Value, b.Value)
}

func put(key, value string) api.Entry {
	return api.Entry{Kind: api.Put, Key: []byte(key), Value: []byte(value)}
}

func del(key string) api.Entry { return api.Entry{Kind: api.Delete, Key: []byte(key)} }

func appends(e api.Entry) api.Call { return api.Call{Kind: api.CallAppend, Entry: e} }

func anyCall(r *rand.Rand) api.Call {
	key := "k" + strconv.Itoa(r.Intn(4))
	if r.Intn(12) == 0 {
		key = string(make([]byte, 63+r.Intn(3)))
	}
	call := api.Call{Kind: byte(1 + r.Intn(6)), Key: []byte(key), N: uint64(r.Intn(9))}
	switch n := r.Intn(24); {
	case n < 7:
		call.Kind, call.Entry = api.CallAppend, put(key, strconv.Itoa(r.Intn(3)))
	case n == 7:
		call.Kind, call.Entry = api.CallAppend, del(key)
	case n < 12:
		call.Kind = api.CallPin
	case n == 12:
		call.Kind = byte(r.Intn(12))
	}
	return call
}

func anyPlan(r *rand.Rand) epoch.Plan {
	clients := r.Intn(5)
	p := epoch.Plan{Config: seqr.Config{Batch: 1 + r.Intn(4), Places: 1 + r.Intn(3)}, Programs: make([][]api.Call, clients), Calm: r.Intn(3) > 0}
	for i := range p.Programs {
		for range r.Intn(9) {
			p.Programs[i] = append(p.Programs[i], anyCall(r))
		}
	}
	for range r.Intn(100) {
		p.Picks = append(p.Picks, r.Intn(2*clients+2))
	}
	return p
}

// anyScript answers a script of up to five lives, with refusals and cuts of power.
func anyScript(r *rand.Rand) world.Script {
	s := world.Script{Sector: 16, Width: []int{1, 2, 4, 32}[r.Intn(4)], Limit: []int{1, 60, 4096}[r.Intn(3)]}
	for range 1 + r.Intn(5) {
		l := world.Life{Plan: anyPlan(r), Cut: r.Intn(3) == 0, Fate: disk.Fate{Names: r.Intn(3)}}
		for n := range uint64(20) {
			l.Fate.Keeps = append(l.Fate.Keeps, disk.Keep{Name: segment.Name(n + 1), Bytes: []int{0, r.Intn(200), 1 << 20}[r.Intn(3)], Torn: r.Intn(2) == 0})
		}
		for range r.Intn(2) {
			l.Faults = append(l.Faults, disk.Fault{At: 1 + r.Intn(40), Keep: r.Intn(80)})
		}
		if r.Intn(4) == 0 {
			l.Crash = 1 + r.Intn(40)
		}
		s.Lives = append(s.Lives, l)
	}
	return s
}

// honest answers the histories of a world: each report with the log as each later epoch and the last recovery found it.
func honest(t testing.TB, s world.Script) []history {
	t.Helper()
	w := world.Run(s)
	if w.E != api.OK {
		t.Fatalf("Run: %d", w.E)
	}
	var all []history
	for i, r := range w.Reports {
		sizes := []uint64{uint64(len(w.Entries))}
		for _, later := range w.Reports[i+1:] {
			if later.E == api.OK {
				sizes = append(sizes, later.Start.Size)
			}
		}
		for _, n := range sizes {
			all = append(all, history{s.Width, s.Lives[i].Plan.Programs, w.Entries[:n], r})
		}
	}
	return all
}

// Whatever was refused and wherever the power went off: an honest report has no finding.
func TestP27_2_Honest(t *testing.T) {
	ends := map[byte]int{}
	states := map[api.Errno]int{}
	for seed := range int64(1200) {
		for _, h := range honest(t, anyScript(rand.New(rand.NewSource(seed)))) {
			if found := h.check(); len(found) != 0 {
				t.Fatalf("%d: %v", seed, found)
			}
			states[h.report.State]++
			for _, v := range h.report.Events {
				if v.Kind == api.EvEnd {
					ends[h.programs[v.Actor-1][v.Call].Kind]++
				}
			}
		}
	}
	for kind := byte(0); kind < 10; kind++ {
		if ends[kind] < 100 {
			t.Errorf("of the kind %d ended %d calls alone", kind, ends[kind])
		}
	}
	if states[api.OK] < 500 || states[api.ErrIO] < 300 || states[api.ErrCrash] < 300 {
		t.Errorf("states %v", states)
	}
}

// The root and the receipts that an honest report tells are those of the log.
func TestP4_TrueRoots(t *testing.T) {
	roots, receipts := 0, 0
	for seed := range int64(200) {
		for _, h := range honest(t, anyScript(rand.New(rand.NewSource(seed)))) {
			made, _ := replay.Roots(h.w, h.entries)
			size := map[int]uint64{}
			for i := range h.programs {
				size[i+1] = h.report.Start.Size
			}
			for _, v := range h.report.Events {
				if v.Kind != api.EvEnd {
					continue
				}
				if h.programs[v.Actor-1][v.Call].Kind == api.CallPin {
					size[v.Actor] = v.Answer.Root.Size
					roots++
					if v.Answer.Root != made[size[v.Actor]] {
						t.Fatalf("%d: a root that is none", seed)
					}
				}
				if len(v.Answer.Receipt) == 0 {
					continue
				}
				receipts++
				claim, e := proof.Claimed(h.w, v.Answer.Receipt)
				seal, _ := digest.Root(h.w, made[size[v.Actor]])
				if e != api.OK || claim.Root != seal || audit.Receipts(h.w, []api.Claim{claim}, [][]byte{v.Answer.Receipt})[0] != api.OK {
					t.Fatalf("%d: a receipt that is not accepted", seed)
				}
			}
		}
	}
	if roots < 100 || receipts < 100 {
		t.Errorf("%d roots, %d receipts", roots, receipts)
	}
}

func cloneEntry(e api.Entry) api.Entry {
	return api.Entry{Kind: e.Kind, Key: bytes.Clone(e.Key), Value: bytes.Clone(e.Value)}
}

// clone answers the history in memory of its own.
func (h history) clone() history {
	c := history{w: h.w, report: h.report}
	for _, program := range h.programs {
		own := []api.Call{}
		for _, call := range program {
			call.Entry, call.Key = cloneEntry(call.Entry), bytes.Clone(call.Key)
			own = append(own, call)
		}
		c.programs = append(c.programs, own)
	}
	for _, e := range h.entries {
		c.entries = append(c.entries, cloneEntry(e))
	}
	c.report.Events = slices.Clone(h.report.Events)
	for i := range c.report.Events {
		a := &c.report.Events[i].Answer
		a.Value, a.Receipt = bytes.Clone(a.Value), bytes.Clone(a.Receipt)
	}
	return c
}

func oneOf[T any](r *rand.Rand, list ...T) T { return list[r.Intn(len(list))] }

// disturb changes something in a history.
func disturb(r *rand.Rand, h *history) {
	events := h.report.Events
	switch r.Intn(12) {
	case 0:
		h.report.Start.Size = oneOf(r, h.report.Start.Size+1, h.report.Start.Size-1, 0, uint64(len(h.entries)), uint64(len(h.entries))+1, math.MaxUint64)
		return
	case 1:
		if len(h.entries) > 0 {
			disturbEntries(r, h)
		}
		return
	case 2:
		if len(h.programs) > 0 {
			disturbPrograms(r, h)
		}
		return
	}
	if len(events) == 0 {
		return
	}
	i := r.Intn(len(events))
	switch r.Intn(10) {
	case 0:
		h.report.Events = slices.Delete(events, i, i+1)
	case 1:
		h.report.Events = slices.Insert(events, i, events[r.Intn(len(events))])
	case 2:
		if j := r.Intn(len(events)); r.Intn(2) == 0 { // their picks stay where they were
			events[i], events[j] = events[j], events[i]
			events[i].Pick, events[j].Pick = events[j].Pick, events[i].Pick
		} else {
			events[i], events[j] = events[j], events[i]
		}
	case 3:
		disturbEvent(r, &events[i], len(h.programs))
	default:
		disturbAnswer(r, h, &events[i].Answer)
	}
}

func disturbEntries(r *rand.Rand, h *history) {
	i := r.Intn(len(h.entries))
	switch r.Intn(5) {
	case 0:
		h.entries = h.entries[:i]
	case 1:
		h.entries = append(h.entries, put("more", ""))
	case 2:
		h.entries[i] = oneOf(r, put("k0", "0"), del("k1"), put("k2", "x"))
	case 3:
		h.entries[i].Kind = byte(r.Intn(4))
	case 4:
		h.entries[i].Key = append(h.entries[i].Key, 'x')
	}
}

func disturbPrograms(r *rand.Rand, h *history) {
	i := r.Intn(len(h.programs))
	program := h.programs[i]
	switch r.Intn(4) {
	case 0:
		h.programs = h.programs[:i]
	case 1:
		h.programs = append(h.programs, []api.Call{anyCall(r)})
	case 2:
		h.programs[i] = append(program, anyCall(r))
	case 3:
		if len(program) > 0 {
			program[r.Intn(len(program))] = anyCall(r)
		}
	}
}

func disturbEvent(r *rand.Rand, v *api.Event, clients int) {
	switch r.Intn(4) {
	case 0:
		v.Pick += oneOf(r, -1, 1, -1000, 1000, math.MinInt)
	case 1:
		v.Actor = oneOf(r, 0, 1, 2, clients, clients+1, -1, math.MaxInt, math.MinInt)
	case 2:
		v.Kind = oneOf(r, byte(r.Intn(13)), 255)
	case 3:
		v.Call += oneOf(r, -1, 1, 1000, math.MinInt)
	}
}

func disturbAnswer(r *rand.Rand, h *history, a *api.Answer) {
	count := uint64(len(h.entries))
	switch r.Intn(9) {
	case 0:
		a.E = api.Errno(r.Intn(16) - 1)
	case 1:
		a.Index = oneOf(r, a.Index+1, a.Index-1, 0, count, count-1, math.MaxUint64)
	case 2:
		a.Root.Size = oneOf(r, a.Root.Size+1, a.Root.Size-1, count, count+1, math.MaxUint64)
	case 3:
		if roots, e := replay.Roots(h.w, h.entries); e == api.OK {
			a.Root = roots[r.Intn(len(roots))]
		}
	case 4:
		a.Root.Log[0]++
	case 5:
		a.Root.Map[r.Intn(32)]++
	case 6:
		a.Present = !a.Present
	case 7:
		a.Value = oneOf(r, nil, []byte{}, []byte("0"), []byte("1"), []byte("x"))
	case 8:
		disturbReceipt(r, h, a)
	}
}

func disturbReceipt(r *rand.Rand, h *history, a *api.Answer) {
	switch r.Intn(4) {
	case 0:
		a.Receipt = nil
	case 1:
		a.Receipt = append(a.Receipt, 0)
	case 2:
		if len(a.Receipt) > 0 {
			a.Receipt[r.Intn(len(a.Receipt))]++
		}
	case 3:
		a.Receipt = bytes.Clone(h.report.Events[r.Intn(len(h.report.Events))].Answer.Receipt)
	}
}

// The chapter's words, written a second time, against Check, on honest histories in which something was changed.
func TestP27_1_Words(t *testing.T) {
	found := map[int]int{}
	many := 0
	for seed := range int64(700) {
		r := rand.New(rand.NewSource(seed))
		for _, h := range honest(t, anyScript(r)) {
			for range 10 {
				own := h.clone()
				for range r.Intn(4) {
					disturb(r, &own)
				}
				got, want := own.check(), byWords(own)
				if !slices.Equal(got, want) {
					t.Fatalf("%d: %v, want %v", seed, got, want)
				}
				for _, f := range got {
					found[f.Rule]++
				}
				if len(got) > 1 {
					many++
				}
			}
		}
	}
	for rule := 1; rule <= 5; rule++ {
		if found[rule] < 200 {
			t.Errorf("the rule %d was broken %d times alone", rule, found[rule])
		}
	}
	if many < 500 || len(found) != 5 {
		t.Errorf("%d histories with several findings, %v", many, found)
	}
}

// What Check is not told to look at makes no difference.
func TestP27_1_NotLookedAt(t *testing.T) {
	for seed := range int64(100) {
		r := rand.New(rand.NewSource(seed))
		for _, h := range honest(t, anyScript(r)) {
			own := h.clone()
			disturb(r, &own)
			want := own.check()
			own.report.E, own.report.State = api.ErrIO, api.ErrText
			own.report.End = api.Root{Size: 77, Log: api.Digest{1}}
			own.report.Start.Log, own.report.Start.Map = api.Digest{2}, api.Digest{3}
			for i := range own.report.Events {
				v := &own.report.Events[i]
				if v.Actor == 0 {
					v.Call, v.Answer = 9, api.Answer{E: api.ErrText, Index: 7}
				}
				v.To, v.N = 99, 99
			}
			if got := own.check(); !slices.Equal(got, want) {
				t.Fatalf("%d: %v, want %v", seed, got, want)
			}
		}
	}
}

// What is handed in is let be, its spare room too.
func TestMemory_Check(t *testing.T) {
	for seed := range int64(60) {
		r := rand.New(rand.NewSource(seed))
		for _, h := range honest(t, anyScript(r)) {
			own := h.clone()
			disturb(r, &own)
			entries := append(own.entries, put("spare", "room"))
			events := append(own.report.Events, api.Event{Pick: 99})
			programs := append(own.programs, []api.Call{appends(put("a", "b"))})
			own.entries, own.report.Events, own.programs = entries[:len(own.entries)], events[:len(own.report.Events)], programs[:len(own.programs)]
			kept := history{own.w, programs, entries, epoch.Report{Events: events}}.clone()
			found := own.check()
			want := slices.Clone(found)
			if !reflect.DeepEqual(kept, history{own.w, programs, entries, epoch.Report{Events: events}}.clone()) {
				t.Fatalf("%d: what was handed in was changed", seed)
			}
			again := own.check()
			clear(again[:cap(again)])
			clear(events)
			clear(entries)
			if !slices.Equal(found, want) {
				t.Fatalf("%d: an answer has memory of another one", seed)
			}
		}
	}
}
