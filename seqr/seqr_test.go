package seqr_test

import (
	"bytes"
	"math"
	"reflect"
	"runtime"
	"slices"
	"strconv"
	"sync"
	"testing"

	"notary/api"
	"notary/disk"
	"notary/replay"
	"notary/seqr"
	"notary/snap"
	"notary/wal"
)

// begun answers a sequencer on a new disk, with this plan behind the Recover.
func begun(t testing.TB, c seqr.Config, faults []disk.Fault, crash int) (*seqr.Seqr, *disk.Disk) {
	t.Helper()
	d := newDisk(t)
	l, s := recovered(t, d, 4, 1000)
	d.Plan(faults, crash)
	return made(t, c, l, s), d
}

func wantOffer(t *testing.T, q *seqr.Seqr, r seqr.Request, e api.Errno) {
	t.Helper()
	if got := q.Offer(r); got != e {
		t.Fatalf("Offer(%v): %d, want %d", r, got, e)
	}
}

// wantSteps does a step for each event.
func wantSteps(t *testing.T, q *seqr.Seqr, events ...api.Event) {
	t.Helper()
	for i, want := range events {
		if ready := q.Ready(); ready != (want.Kind != 0) {
			t.Fatalf("ahead of the step %d: Ready %v, and %v is to come", i, ready, want)
		}
		if got := q.Step(); !reflect.DeepEqual(got, want) {
			t.Fatalf("the step %d: %v, want %v", i, got, want)
		}
	}
}

func wantCollect(t *testing.T, q *seqr.Seqr, client int, a api.Answer, has bool) {
	t.Helper()
	if q.Has(client) != has || q.Has(client) != has {
		t.Fatalf("Has(%d): not %v", client, has)
	}
	if got, gotHas := q.Collect(client); !reflect.DeepEqual(got, a) || gotHas != has {
		t.Fatalf("Collect(%d): %v, %v, want %v, %v", client, got, gotHas, a, has)
	}
}

func took(client int, n uint64) api.Event { return api.Event{Kind: api.EvTake, To: client, N: n} }

func wrote(n uint64) api.Event { return api.Event{Kind: api.EvWrite, N: n} }

func publishes(n uint64) api.Event { return api.Event{Kind: api.EvPublish, N: n} }

func at(index uint64) api.Answer { return api.Answer{E: api.OK, Index: index} }

func replied(client int, index uint64) api.Event {
	return api.Event{Kind: api.EvReply, To: client, N: index, Answer: at(index)}
}

var (
	synced  = api.Event{Kind: api.EvSync}
	failed  = api.Event{Kind: api.EvFail}
	crashed = api.Event{Kind: api.EvCrash}
	stopped = api.Event{Kind: api.EvStop}
	nothing = api.Event{}
	refusal = api.Answer{E: api.ErrFailed}
)

func refused(client int) api.Event {
	return api.Event{Kind: api.EvReply, To: client, Answer: refusal}
}

// run does steps as long as the sequencer is ready, and answers their events.
func run(t testing.TB, q *seqr.Seqr) []api.Event {
	t.Helper()
	var told []api.Event
	for range 1_000_000 {
		if !q.Ready() {
			return told
		}
		told = append(told, q.Step())
	}
	t.Fatal("it is ready without end")
	return nil
}

func TestP23_1_New(t *testing.T) {
	for _, c := range []seqr.Config{{1, 1}, {1, api.MaxCap}, {api.MaxBatch, 1}, {api.MaxBatch, api.MaxCap}, {7, 9}} {
		d := newDisk(t)
		l, s := recovered(t, d, 4, 1000)
		before := d.Ops()
		q := made(t, c, l, s)
		if q.Ready() || q.Ended() || q.State() != api.OK || q.Now() != s || q.Has(1) || d.Ops() != before {
			t.Errorf("New(%v): Ready %v, Ended %v, State %d, Now %v", c, q.Ready(), q.Ended(), q.State(), q.Now())
		}
		wantSteps(t, q, nothing, nothing)
	}
}

func TestP23_1_BehindOlderEntries(t *testing.T) {
	d := newDisk(t)
	l, _ := recovered(t, d, 4, 1000)
	l.Append([]api.Entry{put("a", "x"), put("b", "y")})
	l.Append([]api.Entry{put("c", "z")})
	l, s := recovered(t, d, 4, 1000)
	q := made(t, seqr.Config{Batch: 1, Places: 1}, l, s)
	if q.Now().Root() != s.Root() || q.Now().Size() != 3 {
		t.Fatalf("published: %v", q.Now().Root())
	}
	wantOffer(t, q, ask(1, put("d", "")), api.OK)
	wantSteps(t, q, took(1, 1), wrote(1), synced, publishes(4), replied(1, 3), nothing)
	if !slices.Equal(q.Now().Sizes(), []uint64{0, 2, 3, 4}) {
		t.Errorf("boundaries %v", q.Now().Sizes())
	}
}

func TestP23_1_WrongArguments(t *testing.T) {
	l, s := recovered(t, newDisk(t), 4, 1000)
	more, _ := s.Apply(api.Batch{Entries: []api.Entry{put("k", "v")}})
	long, _ := recovered(t, newDisk(t), 4, 1000)
	long.Append([]api.Entry{put("k", "v"), del("k")})
	good := seqr.Config{Batch: 1, Places: 1}
	type call struct {
		c seqr.Config
		l *wal.Log
		s *snap.Snap
		e api.Errno
	}
	calls := []call{
		{good, nil, s, api.ErrNone}, {good, l, nil, api.ErrNone}, {good, nil, nil, api.ErrNone}, {good, nil, more, api.ErrNone}, {good, long, nil, api.ErrNone},
		{good, l, more, api.ErrCorrupt}, {good, long, s, api.ErrCorrupt}, {good, long, more, api.ErrCorrupt},
	}
	for _, n := range []int{0, -1, 65, math.MaxInt, math.MinInt, 1 << 32} {
		for _, c := range []seqr.Config{{n, 1}, {1, n}, {n, n}, {64, n}, {n, 64}} {
			calls = append(calls, call{c, l, s, api.ErrArg}, call{c, nil, s, api.ErrArg}, call{c, l, nil, api.ErrArg}, call{c, l, more, api.ErrArg}, call{c, nil, nil, api.ErrArg})
		}
	}
	for _, c := range calls {
		if q, e := seqr.New(c.c, c.l, c.s); q != nil || e != c.e {
			t.Errorf("New(%v, %v, %v): %v, %d, want %d", c.c, c.l != nil, c.s.Size(), q, e, c.e)
		}
	}
}

func TestP23_2_State(t *testing.T) {
	for crash := range 3 {
		for fault := range 3 {
			q, _ := begun(t, seqr.Config{Batch: 1, Places: 1}, []disk.Fault{{At: fault}}, crash)
			wantOffer(t, q, ask(1, put("k", "v")), api.OK)
			want := api.OK
			for op := 1; op <= 2; op++ {
				if op == 1 {
					q.Step()
				}
				if want == api.OK {
					q.Step()
					switch op {
					case crash:
						want = api.ErrCrash
					case fault:
						want = api.ErrIO
					}
				}
				if q.State() != want || q.State() != want {
					t.Fatalf("crash %d, fault %d: State behind %d is %d, want %d", crash, fault, op, q.State(), want)
				}
			}
		}
	}
}

// brokenLog answers a log that has failed already, by a refusal or by a cut of power, and its ledger.
func brokenLog(t *testing.T, faults []disk.Fault, crash int) (*wal.Log, *snap.Snap) {
	t.Helper()
	d := newDisk(t)
	l, s := recovered(t, d, 4, 1000)
	d.Plan(faults, crash)
	if e := l.Sync(); e == api.OK {
		t.Fatal("the log has not failed")
	}
	return l, s
}

func TestP23_2_FailedBefore(t *testing.T) {
	l, s := brokenLog(t, []disk.Fault{{At: 1}}, 0)
	q := made(t, seqr.Config{Batch: 2, Places: 1}, l, s)
	if q.State() != api.ErrIO || q.Ready() || q.Ended() || q.Now().Root() != s.Root() {
		t.Fatalf("State %d, Ready %v", q.State(), q.Ready())
	}
	wantSteps(t, q, nothing)
	wantOffer(t, q, ask(1, put("k", "v")), api.ErrFailed)
	wantSteps(t, q, nothing)
	if e := q.Shut(); e != api.OK {
		t.Fatalf("Shut: %d", e)
	}
	wantOffer(t, q, ask(1, put("k", "v")), api.ErrFailed)
	wantSteps(t, q, stopped, nothing)
	if !q.Ended() || q.State() != api.ErrIO {
		t.Errorf("Ended %v, State %d", q.Ended(), q.State())
	}
}

func TestP23_2_CrashedBefore(t *testing.T) {
	l, s := brokenLog(t, nil, 1)
	q := made(t, seqr.Config{Batch: 2, Places: 1}, l, s)
	if q.State() != api.ErrCrash || q.Ready() || q.Ended() || q.Now().Root() != s.Root() {
		t.Fatalf("State %d, Ready %v", q.State(), q.Ready())
	}
	wantOffer(t, q, ask(1, put("k", "v")), api.ErrFailed)
	if e := q.Shut(); e != api.OK {
		t.Fatalf("Shut: %d", e)
	}
	wantSteps(t, q, nothing, nothing)
	if q.Ended() {
		t.Error("it has ended with the power off")
	}
}

func TestP23_3_Offer(t *testing.T) {
	long := func(key, value int) api.Entry {
		return api.Entry{Kind: api.Put, Key: make([]byte, key), Value: make([]byte, value)}
	}
	kind := func(k byte, e api.Entry) api.Entry { e.Kind = k; return e }
	calls := []struct {
		e    api.Entry
		want api.Errno
	}{
		{put("", ""), api.OK}, {del(""), api.OK}, {long(64, 256), api.OK}, {kind(api.Delete, long(64, 0)), api.OK},
		{long(65, 0), api.ErrLong}, {long(0, 257), api.ErrLong}, {kind(9, long(65, 0)), api.ErrLong}, {kind(api.Delete, long(1, 257)), api.ErrLong},
		{kind(0, put("k", "v")), api.ErrForm}, {kind(3, put("k", "v")), api.ErrForm}, {kind(255, put("k", "")), api.ErrForm}, {kind(api.Delete, put("k", "v")), api.ErrForm}, {api.Entry{}, api.ErrForm},
	}
	open, _ := begun(t, seqr.Config{Batch: 1, Places: 1}, nil, 0)
	shut, _ := begun(t, seqr.Config{Batch: 1, Places: 1}, nil, 0)
	shut.Shut()
	l, s := brokenLog(t, []disk.Fault{{At: 1}}, 0)
	broken := made(t, seqr.Config{Batch: 1, Places: 1}, l, s)
	l, s = brokenLog(t, nil, 1)
	dark := made(t, seqr.Config{Batch: 1, Places: 1}, l, s)
	dark.Shut()
	taken := 0
	for _, c := range calls {
		wantOffer(t, open, ask(1, c.e), c.want)
		for q, other := range map[*seqr.Seqr]api.Errno{shut: api.ErrClosed, broken: api.ErrFailed, dark: api.ErrFailed} {
			want := c.want
			if want == api.OK {
				want = other
			}
			wantOffer(t, q, ask(1, c.e), want)
		}
		if c.want == api.OK {
			taken++
		}
	}
	events := run(t, open)
	if len(events) != 5*taken || open.Now().Size() != uint64(taken) {
		t.Errorf("%d events, published %d, and %d were taken", len(events), open.Now().Size(), taken)
	}
	for i := range taken { // what was refused has not come between
		wantCollect(t, open, 1, at(uint64(i)), true)
	}
	if got := entriesOf(t, open.Now()); !sameEntries(got, []api.Entry{calls[0].e, calls[1].e, calls[2].e, calls[3].e}) {
		t.Errorf("published: %v", got)
	}
	wantSteps(t, shut, stopped)
	wantSteps(t, broken, nothing)
	wantSteps(t, dark, nothing)
}

// At each place of a sequencer Offer is taken, until the sequencer is shut or has failed.
func TestP23_3_AtEachPlace(t *testing.T) {
	for steps := range 8 {
		q, _ := begun(t, seqr.Config{Batch: 1, Places: 2}, nil, 0)
		wantOffer(t, q, ask(1, put("a", "")), api.OK)
		for range steps {
			q.Step()
		}
		wantOffer(t, q, ask(2, put("b", "")), api.OK)
		run(t, q)
		wantCollect(t, q, 1, at(0), true)
		wantCollect(t, q, 2, at(1), true)
		if e := q.Shut(); e != api.OK {
			t.Fatal(e)
		}
		wantOffer(t, q, ask(2, put("b", "")), api.ErrClosed)
		wantSteps(t, q, stopped)
		wantOffer(t, q, ask(2, put("b", "")), api.ErrClosed)
	}
}

func TestP23_4_Shut(t *testing.T) {
	q, _ := begun(t, seqr.Config{Batch: 2, Places: 1}, nil, 0)
	for i, key := range []string{"a", "b", "c"} {
		wantOffer(t, q, ask(i+1, put(key, "")), api.OK)
	}
	wantSteps(t, q, took(1, 1))
	if e := q.Shut(); e != api.OK {
		t.Fatalf("Shut: %d", e)
	}
	for range 2 {
		if e := q.Shut(); e != api.ErrClosed {
			t.Fatalf("Shut again: %d", e)
		}
		wantOffer(t, q, ask(4, put("d", "")), api.ErrClosed)
	}
	wantSteps(t, q, took(2, 2), wrote(2), synced, publishes(2), replied(1, 0), replied(2, 1), took(3, 1), wrote(1), synced, publishes(3), replied(3, 2))
	if q.Ended() {
		t.Fatal("it has ended ahead of EvStop")
	}
	wantSteps(t, q, stopped, nothing)
	if e := q.Shut(); e != api.ErrClosed || !q.Ended() {
		t.Errorf("Shut behind the end: %d, Ended %v", e, q.Ended())
	}
	wantCollect(t, q, 3, at(2), true) // whatever its place is
}

func TestP23_4_ShutAtEachPlace(t *testing.T) {
	for steps := range 9 {
		for fault := range 3 {
			q, _ := begun(t, seqr.Config{Batch: 2, Places: 1}, []disk.Fault{{At: fault}}, 0)
			for i := range 3 {
				wantOffer(t, q, ask(i, put("k", "")), api.OK)
			}
			for range steps {
				q.Step()
			}
			if e := q.Shut(); e != api.OK {
				t.Fatalf("Shut behind %d steps: %d", steps, e)
			}
			told := run(t, q)
			if last := told[len(told)-1]; !reflect.DeepEqual(last, stopped) || !q.Ended() {
				t.Fatalf("the last event is %v", last)
			}
			for client := range 3 {
				if a, has := q.Collect(client); !has || (a.E != api.OK) != (fault > 0) {
					t.Errorf("fault %d: Collect(%d): %v, %v", fault, client, a, has)
				}
			}
		}
	}
}

func TestP23_5_Ready(t *testing.T) {
	q, _ := begun(t, seqr.Config{Batch: 1, Places: 1}, nil, 0)
	if q.Ready() {
		t.Error("ready with an empty open queue")
	}
	wantOffer(t, q, ask(1, put("k", "")), api.OK)
	for i := range 5 {
		for range 3 { // asking changes nothing
			if !q.Ready() {
				t.Fatalf("not ready ahead of the step %d", i)
			}
		}
		q.Step()
	}
	if q.Ready() {
		t.Error("ready behind its last reply")
	}
	q.Shut()
	if !q.Ready() {
		t.Error("not ready with an empty closed queue")
	}
	wantSteps(t, q, stopped)
	if q.Ready() {
		t.Error("ready behind its end")
	}
}

func TestP23_6_Steps(t *testing.T) {
	q, d := begun(t, seqr.Config{Batch: 3, Places: 2}, nil, 0)
	for i := range 5 {
		wantOffer(t, q, ask(10+i, put("k"+strconv.Itoa(i), "v")), api.OK)
	}
	wantSteps(t, q, took(10, 1), took(11, 2), took(12, 3))
	if d.Ops() != 0 {
		t.Errorf("%d operations ahead of the write", d.Ops())
	}
	wantSteps(t, q, wrote(3))
	if d.Ops() != 1 || q.Now().Size() != 0 {
		t.Errorf("behind the write: %d operations, published %d", d.Ops(), q.Now().Size())
	}
	wantSteps(t, q, synced)
	if d.Ops() != 2 || q.Now().Size() != 0 {
		t.Errorf("behind the sync: %d operations, published %d", d.Ops(), q.Now().Size())
	}
	wantSteps(t, q, publishes(3))
	if d.Ops() != 2 || q.Now().Size() != 3 || q.Has(10) {
		t.Errorf("behind the publishing: %d operations, published %d", d.Ops(), q.Now().Size())
	}
	wantSteps(t, q, replied(10, 0))
	wantCollect(t, q, 10, at(0), true)
	wantCollect(t, q, 11, api.Answer{}, false)
	wantSteps(t, q, replied(11, 1), replied(12, 2), took(13, 1), took(14, 2), wrote(2), synced, publishes(5), replied(13, 3), replied(14, 4), nothing)
	if d.Ops() != 4 {
		t.Errorf("%d operations", d.Ops())
	}
	if !slices.Equal(q.Now().Sizes(), []uint64{0, 3, 5}) {
		t.Errorf("boundaries %v", q.Now().Sizes())
	}
}

// Who comes while a batch is gathered goes into it, and who comes behind its write does not.
func TestP23_6_LateOffers(t *testing.T) {
	q, _ := begun(t, seqr.Config{Batch: 3, Places: 1}, nil, 0)
	wantOffer(t, q, ask(1, put("a", "")), api.OK)
	wantSteps(t, q, took(1, 1))
	wantOffer(t, q, ask(2, put("b", "")), api.OK)
	wantSteps(t, q, took(2, 2), wrote(2))
	wantOffer(t, q, ask(3, put("c", "")), api.OK)
	wantSteps(t, q, synced, publishes(2), replied(1, 0), replied(2, 1), took(3, 1), wrote(1), synced, publishes(3), replied(3, 2), nothing)
}

func TestP23_6_Fails(t *testing.T) {
	q, d := begun(t, seqr.Config{Batch: 2, Places: 1}, []disk.Fault{{At: 4}}, 0)
	for i := range 5 {
		wantOffer(t, q, ask(i+1, put("k", strconv.Itoa(i))), api.OK)
	}
	wantSteps(t, q, took(1, 1), took(2, 2), wrote(2), synced, publishes(2), replied(1, 0), replied(2, 1))
	wantSteps(t, q, took(3, 1), took(4, 2), wrote(2), failed)
	root := q.Now().Root()
	wantOffer(t, q, ask(6, put("k", "")), api.ErrFailed)
	wantSteps(t, q, refused(3))
	wantCollect(t, q, 3, refusal, true)
	wantSteps(t, q, refused(4), refused(5), nothing)
	wantOffer(t, q, ask(6, put("k", "")), api.ErrFailed)
	if q.Now().Root() != root || q.Now().Size() != 2 || q.State() != api.ErrIO || d.Ops() != 4 {
		t.Errorf("published %d, State %d, %d operations", q.Now().Size(), q.State(), d.Ops())
	}
	wantCollect(t, q, 1, at(0), true)
	wantCollect(t, q, 5, refusal, true)
}

// A refusal within a rotation is the write's: no EvWrite is told.
func TestP23_6_FailsInRotation(t *testing.T) {
	for op := 3; op <= 8; op++ { // Sync, Create, Append, Sync, SyncNames, Append
		for _, crash := range []bool{false, true} {
			d := newDisk(t)
			l, s := recovered(t, d, 4, 1)
			q := made(t, seqr.Config{Batch: 1, Places: 1}, l, s)
			if crash {
				d.Plan(nil, op)
			} else {
				d.Plan([]disk.Fault{{At: op}}, 0)
			}
			wantOffer(t, q, ask(1, put("a", "")), api.OK)
			wantOffer(t, q, ask(2, put("b", "")), api.OK)
			wantSteps(t, q, took(1, 1), wrote(1), synced, publishes(1), replied(1, 0), took(2, 1))
			if crash {
				wantSteps(t, q, crashed, nothing, nothing)
			} else {
				wantSteps(t, q, failed, refused(2), nothing)
			}
			if q.Now().Size() != 1 || q.Has(2) == crash {
				t.Errorf("the operation %d, crash %v: published %d, Has %v", op, crash, q.Now().Size(), q.Has(2))
			}
		}
	}
}

func TestP23_6_Crashes(t *testing.T) {
	for op := 1; op <= 2; op++ {
		q, d := begun(t, seqr.Config{Batch: 2, Places: 1}, nil, op)
		for i := range 3 {
			wantOffer(t, q, ask(i+1, put("k", "")), api.OK)
		}
		wantSteps(t, q, took(1, 1), took(2, 2))
		if op == 2 {
			wantSteps(t, q, wrote(2))
		}
		wantSteps(t, q, crashed, nothing, nothing)
		if q.State() != api.ErrCrash || q.Now().Size() != 0 || q.Ended() || !d.Off() {
			t.Errorf("State %d, published %d, Ended %v", q.State(), q.Now().Size(), q.Ended())
		}
		if e := q.Shut(); e != api.OK {
			t.Errorf("Shut: %d", e)
		}
		wantOffer(t, q, ask(1, put("k", "")), api.ErrFailed)
		wantSteps(t, q, nothing)
		for client := range 5 {
			wantCollect(t, q, client, api.Answer{}, false)
		}
	}
}

// Replies that wait when the power goes off can be collected still.
func TestP23_7_CollectInTheDark(t *testing.T) {
	q, _ := begun(t, seqr.Config{Batch: 1, Places: 1}, nil, 3)
	wantOffer(t, q, ask(1, put("a", "")), api.OK)
	wantOffer(t, q, ask(1, put("b", "")), api.OK)
	wantSteps(t, q, took(1, 1), wrote(1), synced, publishes(1), replied(1, 0), took(1, 1), crashed, nothing)
	wantCollect(t, q, 1, at(0), true)
	wantCollect(t, q, 1, api.Answer{}, false)
}

func TestP23_7_ByNumberAlone(t *testing.T) {
	numbers := []int{0, 1, -1, 65, math.MaxInt, math.MinInt, 1 << 40}
	q, _ := begun(t, seqr.Config{Batch: 64, Places: 64}, nil, 0)
	for range 3 {
		for _, n := range numbers {
			wantOffer(t, q, ask(n, put("k", "")), api.OK)
		}
	}
	for _, v := range run(t, q) {
		if v.Kind == api.EvReply && v.To != numbers[int(v.N)%len(numbers)] {
			t.Errorf("the reply %d goes to %d", v.N, v.To)
		}
	}
	for i, n := range numbers {
		for turn := range 3 { // the oldest one first
			wantCollect(t, q, n, at(uint64(turn*len(numbers)+i)), true)
		}
		wantCollect(t, q, n, api.Answer{}, false)
	}
	wantCollect(t, q, 2, api.Answer{}, false)
	wantOffer(t, q, ask(0, put("k", "")), api.OK)
	run(t, q)
	wantCollect(t, q, 0, at(21), true)
	wantCollect(t, q, 0, api.Answer{}, false)
}

// A reply comes only behind the publishing of its entry, and what is published is durable and never shrinks.
func TestP23_8_InOrder(t *testing.T) {
	d := newDisk(t)
	l, s := recovered(t, d, 4, 60)
	q := made(t, seqr.Config{Batch: 3, Places: 2}, l, s)
	for i := range 20 {
		wantOffer(t, q, ask(i, put("k", strconv.Itoa(i))), api.OK)
	}
	var size uint64
	for q.Ready() {
		v := q.Step()
		now := q.Now().Size()
		if now < size || now != size && v.Kind != api.EvPublish {
			t.Fatalf("published %d, and before %d (%v)", now, size, v)
		}
		size = now
		switch v.Kind {
		case api.EvPublish:
			for _, f := range d.Files() {
				if f.Synced != len(f.Bytes) || !f.Named {
					t.Fatalf("%s is not durable, and %d entries are published", f.Name, now)
				}
			}
			again := copyOf(t, d)
			again.Restart(disk.Fate{})
			if _, there := recovered(t, again, 4, 60); there.Root() != q.Now().Root() {
				t.Fatalf("durable: %v, published: %v", there.Root(), q.Now().Root())
			}
		case api.EvReply:
			e, fault := q.Now().Entry(v.Answer.Index)
			if fault != api.OK || !sameEntry(e, put("k", strconv.Itoa(v.To))) {
				t.Fatalf("%v, and at its index stands %v, %d", v, e, fault)
			}
		}
	}
	if size != 20 {
		t.Errorf("published %d", size)
	}
}

// Each request that was taken gets just one reply, in the order of the Offers, whatever is refused.
func TestP23_9_OneReplyEach(t *testing.T) {
	const all = 23
	for fault := range 16 {
		for _, c := range []seqr.Config{{1, 1}, {2, 1}, {3, 2}, {5, 64}, {64, 1}, {64, 64}} {
			q, _ := begun(t, c, []disk.Fault{{At: fault}}, 0)
			next := 0
			for i := range all {
				if q.Offer(ask(i, put("k", ""))) != api.OK {
					break
				}
				next++
				if i%3 == 0 {
					q.Step()
				}
			}
			run(t, q)
			for client := range all {
				if a, has := q.Collect(client); has != (client < next) || a.E == api.OK && has && a.Index != uint64(client) {
					t.Fatalf("fault %d, %v: Collect(%d): %v, %v, and %d were taken", fault, c, client, a, has, next)
				}
				if q.Has(client) {
					t.Fatalf("fault %d, %v: a second reply to %d", fault, c, client)
				}
			}
		}
	}
}

func TestP23_9_RepliesInOrder(t *testing.T) {
	for fault := range 12 {
		q, _ := begun(t, seqr.Config{Batch: 4, Places: 3}, []disk.Fault{{At: fault}}, 0)
		for i := range 18 {
			wantOffer(t, q, ask(i, put("k", "")), api.OK)
		}
		want := 0
		for _, v := range run(t, q) {
			if v.Kind != api.EvReply {
				continue
			}
			if v.To != want {
				t.Fatalf("fault %d: the reply %d goes to %d", fault, want, v.To)
			}
			want++
		}
		if want != 18 {
			t.Errorf("fault %d: %d replies", fault, want)
		}
	}
}

func TestP23_9_BatchLimit(t *testing.T) {
	for limit := 1; limit <= api.MaxBatch; limit++ {
		const all = 100
		q, _ := begun(t, seqr.Config{Batch: limit, Places: 1 + limit%api.MaxCap}, nil, 0)
		for i := range all {
			wantOffer(t, q, ask(i, put("k", "")), api.OK)
		}
		left := all
		for _, v := range run(t, q) {
			if v.Kind == api.EvWrite {
				if v.N != uint64(min(limit, left)) {
					t.Fatalf("limit %d, %d left: a batch of %d", limit, left, v.N)
				}
				left -= int(v.N)
			}
		}
		if left != 0 {
			t.Errorf("limit %d: %d left", limit, left)
		}
	}
}

// The greatest batch of the greatest entries goes through.
func TestP23_9_GreatestBatch(t *testing.T) {
	q, _ := begun(t, seqr.Config{Batch: api.MaxBatch, Places: api.MaxCap}, nil, 0)
	for i := range api.MaxBatch {
		key := bytes.Repeat([]byte{byte(i)}, api.MaxKey)
		wantOffer(t, q, ask(i, api.Entry{Kind: api.Put, Key: key, Value: make([]byte, api.MaxValue)}), api.OK)
	}
	told := run(t, q)
	if len(told) != 2*api.MaxBatch+3 || q.Now().Size() != api.MaxBatch {
		t.Errorf("%d events, published %d", len(told), q.Now().Size())
	}
}

func TestP23_Examples(t *testing.T) {
	c := seqr.Config{Batch: 2, Places: 1}
	offer := func(q *seqr.Seqr) {
		wantOffer(t, q, ask(1, put("a", "")), api.OK)
		wantOffer(t, q, ask(2, put("b", "")), api.OK)
		wantOffer(t, q, ask(1, put("c", "")), api.OK)
	}
	rest := []api.Event{took(1, 1), wrote(1), synced, publishes(3), replied(1, 2)}

	q, _ := begun(t, c, nil, 0)
	offer(q)
	wantSteps(t, q, took(1, 1), took(2, 2), wrote(2), synced, publishes(2), replied(1, 0))
	wantCollect(t, q, 2, api.Answer{}, false)
	wantSteps(t, q, replied(2, 1))
	wantCollect(t, q, 2, at(1), true)
	wantCollect(t, q, 2, api.Answer{}, false)
	wantSteps(t, q, append(rest, nothing)...)

	q, _ = begun(t, c, []disk.Fault{{At: 2}}, 0)
	offer(q)
	root := q.Now().Root()
	wantSteps(t, q, took(1, 1), took(2, 2), wrote(2), failed)
	if q.State() != api.ErrIO {
		t.Errorf("State %d", q.State())
	}
	wantOffer(t, q, ask(1, put("d", "")), api.ErrFailed)
	wantSteps(t, q, refused(1), refused(2), refused(1), nothing)
	if q.Now().Root() != root {
		t.Errorf("published: %v", q.Now().Root())
	}

	q, _ = begun(t, c, nil, 0)
	offer(q)
	wantSteps(t, q, took(1, 1))
	if first, second := q.Shut(), q.Shut(); first != api.OK || second != api.ErrClosed {
		t.Errorf("Shut: %d, %d", first, second)
	}
	wantOffer(t, q, ask(1, put("d", "")), api.ErrClosed)
	wantSteps(t, q, took(2, 2), wrote(2), synced, publishes(2), replied(1, 0), replied(2, 1))
	wantSteps(t, q, append(rest, stopped, nothing)...)
	if !q.Ended() || q.Ready() {
		t.Errorf("Ended %v, Ready %v", q.Ended(), q.Ready())
	}
}

// A caller may write over what it has handed in, and its spare room is let be.
func TestMemory_Offer(t *testing.T) {
	room := []byte("keyvaluespare")
	e := api.Entry{Kind: api.Put, Key: room[:3], Value: room[3:8]}
	q, _ := begun(t, seqr.Config{Batch: 1, Places: 1}, nil, 0)
	wantOffer(t, q, ask(1, e), api.OK)
	wantOffer(t, q, ask(2, e), api.OK) // in the line
	if string(room) != "keyvaluespare" {
		t.Fatalf("changed: %s", room)
	}
	copy(room, "*************")
	want := put("key", "value")
	for i := range 5 {
		q.Step()
		if string(room) != "*************" {
			t.Fatalf("changed by the step %d: %s", i, room)
		}
	}
	run(t, q)
	if got := entriesOf(t, q.Now()); !sameEntries(got, []api.Entry{want, want}) {
		t.Errorf("published: %v", got)
	}
}

// What was published stays as it was, whatever is published behind it.
func TestMemory_Now(t *testing.T) {
	q, _ := begun(t, seqr.Config{Batch: 1, Places: 1}, nil, 0)
	var kept []*snap.Snap
	var all []api.Entry
	for i := range 10 {
		kept = append(kept, q.Now())
		all = append(all, put("k"+strconv.Itoa(i%3), strconv.Itoa(i)))
		wantOffer(t, q, ask(1, all[i]), api.OK)
		run(t, q)
	}
	roots, _ := replay.Roots(4, all)
	for i, s := range kept {
		if s.Root() != roots[i] {
			t.Errorf("the snapshot of %d entries is %v", i, s.Root())
		}
	}
}

// What was replied to and collected is not kept: neither the entries, nor the replies.
func TestMemory_NotKept(t *testing.T) {
	const all = 20000
	q, _ := begun(t, seqr.Config{Batch: 1, Places: 1}, []disk.Fault{{At: 1}}, 0)
	before := inUse()
	for i := range all {
		wantOffer(t, q, ask(i, api.Entry{Kind: api.Put, Value: make([]byte, api.MaxValue)}), api.OK)
	}
	run(t, q)
	for i := range all {
		wantCollect(t, q, i, refusal, true)
	}
	if left := inUse(); left > before+all*200 { // the emptied queue and map keep some room; with the entries it would be 400 bytes each, with the replies 280
		t.Errorf("%d bytes are kept", left-before)
	}
	runtime.KeepAlive(q)
}

func inUse() uint64 {
	runtime.GC()
	var m runtime.MemStats
	runtime.ReadMemStats(&m)
	return m.HeapAlloc
}

func TestP1_Nil(t *testing.T) {
	for name, q := range map[string]*seqr.Seqr{"nil": nil, "not made by New": new(seqr.Seqr)} {
		for range 2 {
			if e := q.Offer(ask(1, put("k", "v"))); e != api.ErrNone {
				t.Errorf("%s: Offer: %d", name, e)
			}
			if e := q.Offer(ask(1, api.Entry{Key: make([]byte, 65)})); e != api.ErrNone {
				t.Errorf("%s: Offer of what may not be: %d", name, e)
			}
			if e := q.Shut(); e != api.ErrNone {
				t.Errorf("%s: Shut: %d", name, e)
			}
			if e := q.State(); e != api.ErrNone {
				t.Errorf("%s: State: %d", name, e)
			}
			if a, has := q.Collect(1); q.Ready() || q.Ended() || q.Has(1) || q.Now() != nil || has || !reflect.DeepEqual(a, api.Answer{}) || !reflect.DeepEqual(q.Step(), nothing) {
				t.Errorf("%s: not zero", name)
			}
		}
	}
}

// Logs and ledgers that nothing is promised of end no call by a panic, and nothing that is published is lost.
func TestP1_StrangeLogs(t *testing.T) {
	strange := map[string]func() (*wal.Log, *snap.Snap){
		"no log": func() (*wal.Log, *snap.Snap) {
			_, s := recovered(t, newDisk(t), 4, 1000)
			return new(wal.Log), s
		},
		"no ledger": func() (*wal.Log, *snap.Snap) {
			l, _ := recovered(t, newDisk(t), 4, 1000)
			return l, new(snap.Snap)
		},
		"files gone": func() (*wal.Log, *snap.Snap) {
			d := newDisk(t)
			l, s := recovered(t, d, 4, 1000)
			empty, _ := disk.New(1)
			*d = *empty
			return l, s
		},
	}
	for name, f := range strange {
		l, s := f()
		q := made(t, seqr.Config{Batch: 2, Places: 1}, l, s)
		for i := range 5 {
			q.Offer(ask(i, put("k", "v")))
		}
		q.Shut()
		run(t, q)
		if q.Now() == nil {
			t.Errorf("%s: nothing is published", name)
		}
	}
}

// Where somebody else has written to the log, what was published stays.
func TestP1_TwoWriters(t *testing.T) {
	l, s := recovered(t, newDisk(t), 4, 1000)
	q := made(t, seqr.Config{Batch: 1, Places: 1}, l, s)
	l.Append([]api.Entry{put("other", "")})
	wantOffer(t, q, ask(1, put("k", "v")), api.OK)
	run(t, q)
	if q.Now() == nil || q.Now().Root() != s.Root() {
		t.Errorf("published: %v", q.Now().Root())
	}
}

// Readers may look at what is published while the sequencer goes on.
func TestP2_ReadersBeside(t *testing.T) {
	q, _ := begun(t, seqr.Config{Batch: 2, Places: 4}, nil, 0)
	var all []api.Entry
	for i := range 200 {
		all = append(all, put("k"+strconv.Itoa(i%7), strconv.Itoa(i)))
		wantOffer(t, q, ask(1, all[i]), api.OK)
	}
	roots, _ := replay.Roots(4, all)
	var readers sync.WaitGroup
	for range 4 {
		readers.Go(func() {
			for size := uint64(0); size < 200; {
				s := q.Now()
				if s.Size() < size || s.Root() != roots[s.Size()] {
					t.Errorf("published %v behind %d", s.Root(), size)
					return
				}
				size = s.Size()
				runtime.Gosched()
			}
		})
	}
	run(t, q)
	readers.Wait()
}

// Two sequencers do not see one another, and equal ones answer the same.
func TestP2_Alike(t *testing.T) {
	a, _ := begun(t, seqr.Config{Batch: 2, Places: 1}, []disk.Fault{{At: 5}}, 0)
	b, _ := begun(t, seqr.Config{Batch: 2, Places: 1}, []disk.Fault{{At: 5}}, 0)
	other, _ := begun(t, seqr.Config{Batch: 1, Places: 1}, nil, 0)
	for i := range 9 {
		a.Offer(ask(i, put("k", strconv.Itoa(i))))
		b.Offer(ask(i, put("k", strconv.Itoa(i))))
		other.Offer(ask(100+i, del("k")))
	}
	var first, second []api.Event
	for a.Ready() {
		first = append(first, a.Step())
		other.Step()
	}
	second = run(t, b)
	if !reflect.DeepEqual(first, second) || a.Now().Root() != b.Now().Root() {
		t.Errorf("%v and %v", first, second)
	}
}
