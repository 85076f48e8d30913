package client_test

import (
	"bytes"
	"math"
	"reflect"
	"slices"
	"testing"

	"notary/api"
	"notary/client"
	"notary/disk"
	"notary/proof"
	"notary/seqr"
)

// fresh answers a sequencer on an empty log, with this plan.
func fresh(t testing.TB, batch, places int, faults []disk.Fault, crash int) side {
	t.Helper()
	return sideOf(t, seqr.Config{Batch: batch, Places: places}, 4, 1000, newDisk(t), faults, crash)
}

// fed answers a sequencer that has these entries published, each in a batch of its own.
func fed(t testing.TB, entries ...api.Entry) side {
	t.Helper()
	s := fresh(t, 1, 1, nil, 0)
	feed(t, s.seqr, entries...)
	return s
}

// feed has these entries appended under a number that no client has.
func feed(t testing.TB, s *seqr.Seqr, entries ...api.Entry) {
	t.Helper()
	for _, e := range entries {
		if f := s.Offer(seqr.Request{Client: -1, Entry: e}); f != api.OK {
			t.Fatalf("Offer: %d", f)
		}
		for s.Ready() {
			s.Step()
		}
	}
}

func event(kind byte, actor, call int) api.Event {
	return api.Event{Kind: kind, Actor: actor, Call: call}
}

func ends(actor, call int, a api.Answer) api.Event {
	v := event(api.EvEnd, actor, call)
	v.Answer = a
	return v
}

var nothing api.Event

// wantSteps does a step for each event.
func wantSteps(t *testing.T, c *client.Client, events ...api.Event) {
	t.Helper()
	for i, want := range events {
		if ready := c.Ready(); ready != (want.Kind != 0) {
			t.Fatalf("ahead of the step %d: Ready %v, and %v is to come", i, ready, want)
		}
		if got := c.Step(); !sameEvent(got, want) {
			t.Fatalf("the step %d: %v, want %v", i, got, want)
		}
	}
}

// steps does so many steps of the sequencer, in which the client is never ready.
func steps(t *testing.T, s *seqr.Seqr, c *client.Client, n int) {
	t.Helper()
	for i := range n {
		wantSteps(t, c, nothing)
		if s.Step().Kind == 0 {
			t.Fatalf("the sequencer was not ready at its step %d", i)
		}
	}
}

func TestP24_1_New(t *testing.T) {
	for _, number := range []int{1, 2, 63, api.MaxClients} {
		s := fed(t, put("k", "v"))
		c := made(t, number, []api.Call{gets("k")}, s.seqr)
		if c.Done() || !c.Ready() || c.Pinned() != s.seqr.Now().Root() || c.Pinned().Size != 1 {
			t.Errorf("New(%d): Done %v, Ready %v, Pinned %v", number, c.Done(), c.Ready(), c.Pinned())
		}
		wantSteps(t, c, event(api.EvBegin, number, 0), ends(number, 0, api.Answer{Value: []byte("v"), Present: true}), nothing)
	}
}

// What is pinned at the beginning is what was published when New was called, not what is published at the first step.
func TestP24_1_PinsAtNew(t *testing.T) {
	s := fed(t, put("k", "v"))
	root := s.seqr.Now().Root()
	c := made(t, 1, []api.Call{gets("k"), pins(), gets("k")}, s.seqr)
	feed(t, s.seqr, put("k", "w"))
	if c.Pinned() != root {
		t.Errorf("Pinned %v, want %v", c.Pinned(), root)
	}
	wantSteps(t, c, event(api.EvBegin, 1, 0), ends(1, 0, api.Answer{Value: []byte("v"), Present: true}))
	wantSteps(t, c, event(api.EvBegin, 1, 1))
	feed(t, s.seqr, put("k", "x")) // a Pin pins what is published at its end, not at its beginning
	wantSteps(t, c, ends(1, 1, api.Answer{Root: s.seqr.Now().Root()}))
	feed(t, s.seqr, put("k", "y"))
	if c.Pinned().Size != 3 {
		t.Errorf("Pinned %v", c.Pinned())
	}
	wantSteps(t, c, event(api.EvBegin, 1, 2), ends(1, 2, api.Answer{Value: []byte("x"), Present: true}), nothing)
}

func TestP24_1_WrongArguments(t *testing.T) {
	s := fresh(t, 1, 1, nil, 0)
	for _, n := range []int{0, -1, api.MaxClients + 1, math.MaxInt, math.MinInt, 1 << 32} {
		for _, q := range []*seqr.Seqr{s.seqr, nil} {
			if c, e := client.New(n, []api.Call{pins()}, q); c != nil || e != api.ErrArg {
				t.Errorf("New(%d): %v, %d", n, c, e)
			}
		}
	}
	for _, n := range []int{1, api.MaxClients} {
		if c, e := client.New(n, nil, nil); c != nil || e != api.ErrNone {
			t.Errorf("New(%d) without a sequencer: %v, %d", n, c, e)
		}
	}
}

func TestP24_1_NoProgram(t *testing.T) {
	s := fresh(t, 1, 1, nil, 0)
	for _, program := range [][]api.Call{nil, {}} {
		c := made(t, 1, program, s.seqr)
		if !c.Done() || c.Pinned() != s.seqr.Now().Root() {
			t.Errorf("Done %v, Pinned %v", c.Done(), c.Pinned())
		}
		wantSteps(t, c, nothing, nothing)
	}
}

func TestP24_2_WaitsForItsReply(t *testing.T) {
	s := fresh(t, 2, 2, nil, 0)
	c := made(t, 1, []api.Call{appends(put("a", "")), pins()}, s.seqr)
	other := made(t, 2, []api.Call{appends(put("b", ""))}, s.seqr)
	wantSteps(t, other, event(api.EvBegin, 2, 0), event(api.EvSend, 2, 0))
	wantSteps(t, c, event(api.EvBegin, 1, 0), event(api.EvSend, 1, 0))
	steps(t, s.seqr, c, 6) // the reply to the other one among them
	wantSteps(t, other, ends(2, 0, api.Answer{Index: 0}), nothing)
	steps(t, s.seqr, c, 1)
	for range 3 { // asking changes nothing
		if !c.Ready() || c.Done() {
			t.Fatal("not ready, and its reply waits")
		}
	}
	wantSteps(t, c, ends(1, 0, api.Answer{Index: 1}), event(api.EvBegin, 1, 1), ends(1, 1, api.Answer{Root: s.seqr.Now().Root()}), nothing)
}

func TestP24_2_WaitsForTheEnd(t *testing.T) {
	s := fresh(t, 1, 1, nil, 0)
	other := made(t, 2, []api.Call{appends(put("b", ""))}, s.seqr)
	wantSteps(t, other, event(api.EvBegin, 2, 0), event(api.EvSend, 2, 0))
	c := made(t, 1, []api.Call{closes()}, s.seqr)
	wantSteps(t, c, event(api.EvBegin, 1, 0), event(api.EvSend, 1, 0))
	steps(t, s.seqr, c, 6)
	wantSteps(t, c, ends(1, 0, api.Answer{}), nothing)
	wantSteps(t, other, ends(2, 0, api.Answer{Index: 0}), nothing)
}

// Wherever a client stands, with the power off it does nothing, and only a program whose last call has ended is over.
func TestP24_2_PowerOff(t *testing.T) {
	for _, at := range []struct {
		program []api.Call
		steps   int
		over    bool
	}{
		{nil, 0, true}, {[]api.Call{pins()}, 0, false}, {[]api.Call{pins()}, 1, false}, {[]api.Call{pins()}, 2, true},
		{[]api.Call{gets("k")}, 1, false}, {[]api.Call{gets("k")}, 2, true}, {[]api.Call{gets("k"), pins()}, 2, false},
		{[]api.Call{appends(put("k", ""))}, 1, false}, {[]api.Call{appends(put("k", ""))}, 2, false}, {[]api.Call{appends(api.Entry{})}, 2, true},
		{[]api.Call{closes()}, 1, false}, {[]api.Call{closes()}, 2, false}, {[]api.Call{{Kind: 9}}, 1, false},
	} {
		s := fresh(t, 1, 1, nil, 1)
		s.seqr.Offer(seqr.Request{Client: -1, Entry: put("x", "")})
		c := made(t, 1, at.program, s.seqr)
		for range at.steps {
			c.Step()
		}
		root := c.Pinned()
		goDark(t, s.seqr)
		wantSteps(t, c, nothing, nothing)
		if c.Done() != at.over || c.Pinned() != root {
			t.Errorf("%v behind %d steps: Done %v, Pinned %v", at.program, at.steps, c.Done(), c.Pinned())
		}
		if e := s.seqr.Shut(); (e != api.OK) != (at.steps == 2 && at.program[0].Kind == api.CallClose) {
			t.Errorf("%v behind %d steps: Shut: %d", at.program, at.steps, e)
		}
	}
}

// goDark has the sequencer go on till the power is off.
func goDark(t *testing.T, s *seqr.Seqr) {
	t.Helper()
	for range 40 {
		s.Offer(seqr.Request{Client: -1, Entry: put("x", "")})
		s.Step()
	}
	if s.State() != api.ErrCrash {
		t.Fatalf("State %d", s.State())
	}
}

// A reply that waits when the power goes off is not collected any more.
func TestP24_2_PowerOffAheadOfTheReply(t *testing.T) {
	s := fresh(t, 1, 1, nil, 3)
	c := made(t, 1, []api.Call{appends(put("a", ""))}, s.seqr)
	wantSteps(t, c, event(api.EvBegin, 1, 0), event(api.EvSend, 1, 0))
	steps(t, s.seqr, c, 5)
	if !c.Ready() {
		t.Fatal("not ready, and its reply waits")
	}
	goDark(t, s.seqr)
	wantSteps(t, c, nothing, nothing)
	if c.Done() || !s.seqr.Has(1) {
		t.Errorf("Done %v, Has %v", c.Done(), s.seqr.Has(1))
	}
}

func TestP24_3_RefusedAppends(t *testing.T) {
	long := put("k", "")
	long.Key = make([]byte, 65)
	wide := put("k", "")
	wide.Value = make([]byte, 257)
	for _, c := range []struct {
		e    api.Entry
		want api.Errno
	}{{long, api.ErrLong}, {wide, api.ErrLong}, {api.Entry{Kind: 9}, api.ErrForm}, {api.Entry{Kind: api.Delete, Value: []byte("v")}, api.ErrForm}} {
		s := fresh(t, 1, 1, nil, 0)
		who := made(t, 3, []api.Call{appends(c.e), appends(put("k", "v"))}, s.seqr)
		wantSteps(t, who, event(api.EvBegin, 3, 0), ends(3, 0, api.Answer{E: c.want}))
		if s.seqr.Ready() {
			t.Errorf("%v stands in the queue", c.e)
		}
		wantSteps(t, who, event(api.EvBegin, 3, 1), event(api.EvSend, 3, 1), nothing)
	}
}

func TestP24_3_Failed(t *testing.T) {
	s := fresh(t, 1, 1, []disk.Fault{{At: 2}}, 0)
	c := made(t, 1, []api.Call{appends(put("a", "")), appends(put("b", "")), pins(), gets("a"), closes(), closes(), appends(put("c", "")), appends(api.Entry{})}, s.seqr)
	root := c.Pinned()
	wantSteps(t, c, event(api.EvBegin, 1, 0), event(api.EvSend, 1, 0))
	steps(t, s.seqr, c, 4) // take, write, fail, reply
	wantSteps(t, c, ends(1, 0, api.Answer{E: api.ErrFailed}), event(api.EvBegin, 1, 1), ends(1, 1, api.Answer{E: api.ErrFailed}))
	wantSteps(t, c, event(api.EvBegin, 1, 2), ends(1, 2, api.Answer{Root: root}), event(api.EvBegin, 1, 3), ends(1, 3, api.Answer{}))
	wantSteps(t, c, event(api.EvBegin, 1, 4), event(api.EvSend, 1, 4))
	steps(t, s.seqr, c, 1)
	wantSteps(t, c, ends(1, 4, api.Answer{}), event(api.EvBegin, 1, 5), ends(1, 5, api.Answer{E: api.ErrClosed}))
	wantSteps(t, c, event(api.EvBegin, 1, 6), ends(1, 6, api.Answer{E: api.ErrFailed}), event(api.EvBegin, 1, 7), ends(1, 7, api.Answer{E: api.ErrForm}), nothing)
}

// Who closes second is told so at once, and does not wait.
func TestP24_3_TwoClose(t *testing.T) {
	s := fresh(t, 1, 1, nil, 0)
	a := made(t, 1, []api.Call{closes()}, s.seqr)
	b := made(t, 2, []api.Call{closes(), pins()}, s.seqr)
	wantSteps(t, a, event(api.EvBegin, 1, 0))
	wantSteps(t, b, event(api.EvBegin, 2, 0), event(api.EvSend, 2, 0))
	wantSteps(t, a, ends(1, 0, api.Answer{E: api.ErrClosed}), nothing)
	steps(t, s.seqr, b, 1)
	wantSteps(t, b, ends(2, 0, api.Answer{}), event(api.EvBegin, 2, 1), ends(2, 1, api.Answer{Root: s.seqr.Now().Root()}), nothing)
}

func TestP24_4_Reads(t *testing.T) {
	s := fed(t, put("a", "x"), put("b", ""), del("c"))
	now := s.seqr.Now()
	receipt := func(p []byte, e api.Errno) api.Answer { return api.Answer{E: e, Receipt: p} }
	long := string(make([]byte, 65))
	calls := []struct {
		call api.Call
		want api.Answer
	}{
		{gets("a"), api.Answer{Value: []byte("x"), Present: true}},
		{gets("b"), api.Answer{Present: true}},
		{gets("c"), api.Answer{}},
		{gets(long[:64]), api.Answer{}},
		{gets(long), api.Answer{E: api.ErrLong}},
		{entryAt(0), receipt(now.ReceiptEntry(0))},
		{entryAt(2), receipt(now.ReceiptEntry(2))},
		{entryAt(3), api.Answer{E: api.ErrRange}},
		{entryAt(math.MaxUint64), api.Answer{E: api.ErrRange}},
		{keyOf("a"), receipt(now.ReceiptKey([]byte("a")))},
		{keyOf("c"), receipt(now.ReceiptKey([]byte("c")))},
		{keyOf(""), receipt(now.ReceiptKey(nil))},
		{keyOf(long), api.Answer{E: api.ErrLong}},
		{since(0), receipt(now.ReceiptSince(0))},
		{since(3), receipt(now.ReceiptSince(3))},
		{since(4), api.Answer{E: api.ErrRange}},
		{pins(), api.Answer{Root: now.Root()}},
	}
	var program []api.Call
	for _, c := range calls {
		c.call.Entry = put("not", "looked at")
		program = append(program, c.call)
	}
	c := made(t, 64, program, s.seqr)
	ops := s.disk.Ops()
	for i, one := range calls {
		wantSteps(t, c, event(api.EvBegin, 64, i), ends(64, i, one.want))
		if one.want.Receipt == nil != (one.want.E != api.OK || one.call.Kind == api.CallGet || one.call.Kind == api.CallPin) {
			t.Fatalf("the call %d asks for nothing", i)
		}
	}
	wantSteps(t, c, nothing)
	if s.seqr.Ready() || s.disk.Ops() != ops || !c.Done() {
		t.Error("reads have changed the sequencer")
	}
}

// A size that no batch left has no receipt.
func TestP24_4_SinceBetweenBoundaries(t *testing.T) {
	s := fresh(t, 2, 2, nil, 0)
	a, b := made(t, 1, []api.Call{appends(put("a", ""))}, s.seqr), made(t, 2, []api.Call{appends(put("b", ""))}, s.seqr)
	for _, c := range []*client.Client{a, b} {
		c.Step()
		c.Step()
	}
	for s.seqr.Ready() {
		s.seqr.Step()
	}
	c := made(t, 3, []api.Call{since(1), since(2)}, s.seqr)
	want, _ := s.seqr.Now().ReceiptSince(2)
	wantSteps(t, c, event(api.EvBegin, 3, 0), ends(3, 0, api.Answer{E: api.ErrNone}), event(api.EvBegin, 3, 1), ends(3, 1, api.Answer{Receipt: want}))
}

func TestP24_4_UnknownKinds(t *testing.T) {
	s := fed(t, put("k", "v"))
	var program []api.Call
	for kind := range 256 {
		if kind == 0 || kind > int(api.CallClose) {
			program = append(program, api.Call{Kind: byte(kind), Entry: put("k", "v"), Key: []byte("k")})
		}
	}
	c := made(t, 1, program, s.seqr)
	for i := range program {
		wantSteps(t, c, event(api.EvBegin, 1, i), ends(1, i, api.Answer{E: api.ErrArg}))
	}
	if s.seqr.Ready() || !c.Done() {
		t.Error("a call of an unknown kind has done something")
	}
}

// A client's reads go on behind the end of the sequencer.
func TestP24_4_ReadsBehindTheEnd(t *testing.T) {
	s := fed(t, put("k", "v"))
	s.seqr.Shut()
	s.seqr.Step()
	c := made(t, 1, []api.Call{pins(), gets("k"), appends(put("k", "")), closes()}, s.seqr)
	wantSteps(t, c, event(api.EvBegin, 1, 0), ends(1, 0, api.Answer{Root: s.seqr.Now().Root()}), event(api.EvBegin, 1, 1), ends(1, 1, api.Answer{Value: []byte("v"), Present: true}))
	wantSteps(t, c, event(api.EvBegin, 1, 2), ends(1, 2, api.Answer{E: api.ErrClosed}), event(api.EvBegin, 1, 3), ends(1, 3, api.Answer{E: api.ErrClosed}), nothing)
}

func TestP24_5_Done(t *testing.T) {
	s := fresh(t, 1, 1, nil, 0)
	c := made(t, 1, []api.Call{pins(), gets("k"), appends(put("k", ""))}, s.seqr)
	for i := range 6 { // the last one finds that no reply waits
		if c.Done() || c.Done() {
			t.Fatalf("done ahead of the step %d", i)
		}
		c.Step()
	}
	for s.seqr.Ready() {
		if c.Done() {
			t.Fatal("done ahead of its reply")
		}
		s.seqr.Step()
	}
	if c.Done() {
		t.Fatal("done ahead of the call's end")
	}
	c.Step()
	if !c.Done() {
		t.Error("not done")
	}
}

func TestP24_5_Pinned(t *testing.T) {
	s := fresh(t, 1, 1, nil, 0)
	c := made(t, 1, []api.Call{pins(), gets("k"), pins()}, s.seqr)
	empty := s.seqr.Now().Root()
	feed(t, s.seqr, put("k", "v"))
	want := []api.Root{empty, empty, s.seqr.Now().Root(), s.seqr.Now().Root(), s.seqr.Now().Root(), s.seqr.Now().Root()}
	for i, root := range want {
		if c.Pinned() != root || c.Pinned() != root {
			t.Fatalf("behind %d steps: %v, want %v", i, c.Pinned(), root)
		}
		c.Step()
	}
}

func TestP1_Nil(t *testing.T) {
	for name, c := range map[string]*client.Client{"nil": nil, "not made by New": new(client.Client)} {
		for range 2 {
			if c.Ready() || !c.Done() || !sameEvent(c.Step(), nothing) || c.Pinned() != (api.Root{}) {
				t.Errorf("%s: Ready %v, Done %v, Pinned %v", name, c.Ready(), c.Done(), c.Pinned())
			}
		}
	}
}

// all answers a program with a call of each kind.
func all() []api.Call {
	return []api.Call{pins(), appends(put("k", "v")), gets("k"), entryAt(0), keyOf("k"), since(0), {Kind: 9}, closes(), appends(put("k", "v"))}
}

// With a sequencer that New has not made no call panics, and each one ends.
func TestP1_NoSequencer(t *testing.T) {
	c := made(t, 1, all(), new(seqr.Seqr))
	for range 100 {
		c.Step()
	}
	if !c.Done() {
		t.Error("not done")
	}
}

// Two clients of one number take each other's replies away, but none panics.
func TestP1_OneNumber(t *testing.T) {
	for turn := range 4 {
		s := fresh(t, 2, 1, nil, 0)
		actors := []interface{ Step() api.Event }{made(t, 1, all(), s.seqr), s.seqr, made(t, 1, all(), s.seqr)}
		for i := range 500 {
			actors[(i*i+turn*i/3)%3].Step()
		}
	}
}

// The program is the client's own: what the caller writes over behind New makes no difference.
func TestMemory_Program(t *testing.T) {
	room := []byte("kvkkspare")
	program := []api.Call{{Kind: api.CallAppend, Entry: api.Entry{Kind: api.Put, Key: room[:1], Value: room[1:2]}}, pins(), {Kind: api.CallGet, Key: room[2:3]}, {Kind: api.CallKey, Key: room[3:4]}, pins()}
	spare := program[:4]
	s := fresh(t, 1, 1, nil, 0)
	c := made(t, 1, spare, s.seqr)
	if string(room) != "kvkkspare" || !reflect.DeepEqual(program[4], pins()) {
		t.Fatalf("changed: %s, %v", room, program)
	}
	copy(room, "*********")
	clear(program)
	wantSteps(t, c, event(api.EvBegin, 1, 0), event(api.EvSend, 1, 0))
	steps(t, s.seqr, c, 5)
	wantSteps(t, c, ends(1, 0, api.Answer{Index: 0}), event(api.EvBegin, 1, 1), ends(1, 1, api.Answer{Root: s.seqr.Now().Root()}))
	receipt, _ := s.seqr.Now().ReceiptKey([]byte("k"))
	wantSteps(t, c, event(api.EvBegin, 1, 2), ends(1, 2, api.Answer{Value: []byte("v"), Present: true}), event(api.EvBegin, 1, 3), ends(1, 3, api.Answer{Receipt: receipt}), nothing)
	if string(room) != "*********" {
		t.Errorf("changed: %s", room)
	}
}

// Bytes in an answer are new memory, spare room too: writing over them changes no later answer.
func TestMemory_Answers(t *testing.T) {
	s := fed(t, put("k", "value"))
	reads := []api.Call{gets("k"), entryAt(0), keyOf("k"), since(0)}
	c := made(t, 1, slices.Concat(reads, reads), s.seqr)
	answers := func() []api.Answer {
		var list []api.Answer
		for range reads {
			c.Step()
			list = append(list, c.Step().Answer)
		}
		return list
	}
	first := answers()
	var kept [][]byte
	for _, a := range first {
		kept = append(kept, bytes.Clone(a.Value), bytes.Clone(a.Receipt))
		for _, p := range [][]byte{a.Value, a.Receipt} {
			p = p[:cap(p)]
			for i := range p {
				p[i] ^= 0xff
			}
		}
	}
	for i, a := range answers() {
		if !bytes.Equal(a.Value, kept[2*i]) || !bytes.Equal(a.Receipt, kept[2*i+1]) {
			t.Errorf("the read %d is another one now", i)
		}
		if len(a.Receipt) > 0 {
			if _, e := proof.Claimed(4, a.Receipt); e != api.OK {
				t.Errorf("the receipt %d: %d", i, e)
			}
		}
	}
}

func TestP24_Examples(t *testing.T) {
	s := fresh(t, 1, 1, nil, 0)
	c := made(t, 1, []api.Call{pins(), gets("k")}, s.seqr)
	wantSteps(t, c, event(api.EvBegin, 1, 0), ends(1, 0, api.Answer{Root: s.seqr.Now().Root()}), event(api.EvBegin, 1, 1), ends(1, 1, api.Answer{}))
	if !c.Done() {
		t.Error("not done")
	}
	wantSteps(t, c, nothing)

	c = made(t, 2, []api.Call{appends(put("k", "v"))}, s.seqr)
	wantSteps(t, c, event(api.EvBegin, 2, 0), event(api.EvSend, 2, 0))
	steps(t, s.seqr, c, 5)
	wantSteps(t, c, ends(2, 0, api.Answer{Index: 0}), nothing)

	long := put("", "")
	long.Key = make([]byte, 65)
	c = made(t, 3, []api.Call{appends(long), {Kind: 9}}, s.seqr)
	wantSteps(t, c, event(api.EvBegin, 3, 0), ends(3, 0, api.Answer{E: api.ErrLong}), event(api.EvBegin, 3, 1), ends(3, 1, api.Answer{E: api.ErrArg}), nothing)
	if s.seqr.Ready() {
		t.Error("something stands in the queue")
	}

	c = made(t, 4, []api.Call{closes(), appends(put("k", "v"))}, s.seqr)
	wantSteps(t, c, event(api.EvBegin, 4, 0), event(api.EvSend, 4, 0))
	steps(t, s.seqr, c, 1)
	wantSteps(t, c, ends(4, 0, api.Answer{}), event(api.EvBegin, 4, 1), ends(4, 1, api.Answer{E: api.ErrClosed}), nothing)
}
