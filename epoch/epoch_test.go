package epoch_test

import (
	"bytes"
	"math"
	"math/rand"
	"reflect"
	"runtime"
	"slices"
	"strconv"
	"sync"
	"testing"
	"time"

	"notary/api"
	"notary/digest"
	"notary/disk"
	"notary/entry"
	"notary/epoch"
	"notary/proof"
	"notary/replay"
	"notary/seqr"
	"notary/wal"
)

const width, limit = 32, 1000

func config(batch, places int) seqr.Config { return seqr.Config{Batch: batch, Places: places} }

// planOf answers a plan of the chapter's examples: Batch 2, Places 1.
func planOf(picks []int, calm bool, programs ...[]api.Call) epoch.Plan {
	return epoch.Plan{Config: config(2, 1), Programs: programs, Picks: picks, Calm: calm}
}

// exampleProgram is that of the chapter's examples.
func exampleProgram() []api.Call { return []api.Call{appends(put("a", "1")), pins(), gets("a")} }

func play(t testing.TB, d *disk.Disk, p epoch.Plan) epoch.Report {
	t.Helper()
	r := epoch.Play(d, width, limit, p)
	if r.E != api.OK {
		t.Fatalf("Play: %d", r.E)
	}
	return r
}

func emptyRoot(t testing.TB, w int) api.Root {
	t.Helper()
	log, e := digest.NoLog(w)
	pairs, f := digest.NoMap(w)
	if e != api.OK || f != api.OK {
		t.Fatalf("digest: %d, %d", e, f)
	}
	return api.Root{Log: log, Map: pairs}
}

// rootsOf answers the roots of all beginnings of the entries.
func rootsOf(t testing.TB, w int, entries ...api.Entry) []api.Root {
	t.Helper()
	roots, e := replay.Roots(w, entries)
	if e != api.OK {
		t.Fatalf("Roots: %d", e)
	}
	return roots
}

// entriesOn answers the entries of the log on a disk, by a copy of it.
func entriesOn(t testing.TB, d *disk.Disk, w int) []api.Entry {
	t.Helper()
	c, e := disk.From(64, d.Files())
	if e != api.OK {
		t.Fatalf("disk.From: %d", e)
	}
	_, batches, e := wal.Open(c, w, api.MaxLimit)
	if e != api.OK {
		t.Fatalf("Open: %d", e)
	}
	var entries []api.Entry
	for _, b := range batches {
		entries = append(entries, b.Entries...)
	}
	return entries
}

func wantEntries(t testing.TB, got []api.Entry, want ...api.Entry) {
	t.Helper()
	if !slices.EqualFunc(got, want, sameEntry) {
		t.Errorf("the log has %v, want %v", got, want)
	}
}

// begun, sent and ends answer events of a client.
func begun(pick, actor, call int) api.Event {
	return api.Event{Pick: pick, Actor: actor, Kind: api.EvBegin, Call: call}
}

func sent(pick, actor, call int) api.Event {
	return api.Event{Pick: pick, Actor: actor, Kind: api.EvSend, Call: call}
}

func ends(pick, actor, call int, a api.Answer) api.Event {
	return api.Event{Pick: pick, Actor: actor, Kind: api.EvEnd, Call: call, Answer: a}
}

// does answers an event of the sequencer.
func does(pick int, kind byte, to int, n uint64) api.Event {
	return api.Event{Pick: pick, Kind: kind, To: to, N: n}
}

func replies(pick, to int, a api.Answer) api.Event {
	v := does(pick, api.EvReply, to, a.Index)
	v.Answer = a
	return v
}

func wantEvents(t testing.TB, r epoch.Report, want ...api.Event) {
	t.Helper()
	wantSame(t, epoch.Report{Events: r.Events}, epoch.Report{Events: want})
}

func kindsOf(r epoch.Report) []byte {
	var kinds []byte
	for _, v := range r.Events {
		kinds = append(kinds, v.Kind)
	}
	return kinds
}

// wrong answers calls of Play that can't begin, whatever the disk is.
func wrong() map[string]func(d *disk.Disk) epoch.Report {
	calls := map[string]func(d *disk.Disk) epoch.Report{}
	good := planOf([]int{1, 1, 0}, true, exampleProgram())
	for _, n := range []int{0, -1, math.MinInt, math.MaxInt} {
		name := strconv.Itoa(n)
		calls["w "+name] = func(d *disk.Disk) epoch.Report { return epoch.Play(d, n, limit, good) }
		calls["limit "+name] = func(d *disk.Disk) epoch.Report { return epoch.Play(d, width, n, good) }
		calls["Batch "+name] = func(d *disk.Disk) epoch.Report {
			p := good
			p.Config.Batch = n
			return epoch.Play(d, width, limit, p)
		}
		calls["Places "+name] = func(d *disk.Disk) epoch.Report {
			p := good
			p.Config.Places = n
			return epoch.Play(d, width, limit, p)
		}
	}
	calls["w 33"] = func(d *disk.Disk) epoch.Report { return epoch.Play(d, 33, limit, good) }
	calls["limit 2^20 + 1"] = func(d *disk.Disk) epoch.Report { return epoch.Play(d, width, 1<<20+1, good) }
	calls["Batch 65"] = func(d *disk.Disk) epoch.Report {
		return epoch.Play(d, width, limit, epoch.Plan{Config: config(65, 1), Programs: good.Programs, Calm: true})
	}
	calls["Places 65"] = func(d *disk.Disk) epoch.Report {
		return epoch.Play(d, width, limit, epoch.Plan{Config: config(1, 65), Programs: good.Programs, Calm: true})
	}
	calls["65 programs"] = func(d *disk.Disk) epoch.Report {
		return epoch.Play(d, width, limit, epoch.Plan{Config: config(1, 1), Programs: make([][]api.Call, 65), Calm: true})
	}
	return calls
}

func wantError(t testing.TB, what string, r epoch.Report, e api.Errno) {
	t.Helper()
	if !reflect.DeepEqual(plain(r), epoch.Report{E: e}) {
		t.Errorf("%s: %v, want the error %d alone", what, r, e)
	}
}

func TestP25_1_WrongNumbers(t *testing.T) {
	for what, call := range wrong() {
		d := newDisk(t)
		play(t, d, planOf([]int{1, 1, 0, 0}, false, exampleProgram())) // a batch that is written and not durable
		d.Plan([]disk.Fault{{At: 1}}, 2)
		before := d.Files()
		wantError(t, what, call(d), api.ErrArg)
		if d.Ops() != 0 || d.Off() || !reflect.DeepEqual(d.Files(), before) {
			t.Errorf("%s: the disk was touched", what)
		}
		d.Cut()
		wantError(t, what+", the power off", call(d), api.ErrArg)
		wantError(t, what+", no disk", call(nil), api.ErrArg)
	}
}

func TestP25_1_NoDisk(t *testing.T) {
	wantError(t, "no disk", epoch.Play(nil, width, limit, planOf([]int{1}, true, exampleProgram())), api.ErrNone)
	wantError(t, "no disk, nobody", epoch.Play(nil, 1, 1, epoch.Plan{Config: config(1, 1)}), api.ErrNone)
}

// At each limit it works.
func TestP25_1_Limits(t *testing.T) {
	for _, w := range []int{1, api.MaxWidth} {
		for _, most := range []int{1, api.MaxLimit} {
			for _, c := range []seqr.Config{config(1, 1), config(api.MaxBatch, api.MaxCap), config(1, api.MaxCap), config(api.MaxBatch, 1)} {
				for _, clients := range []int{0, 1, api.MaxClients} {
					p := epoch.Plan{Config: c, Programs: make([][]api.Call, clients), Calm: true}
					var want []api.Entry
					for i := range p.Programs {
						own := put("k"+strconv.Itoa(i), "v")
						p.Programs[i] = []api.Call{appends(own)}
						want = append(want, own)
					}
					d := newDisk(t)
					r := epoch.Play(d, w, most, p)
					if r.E != api.OK || r.Start != emptyRoot(t, w) || r.End != rootsOf(t, w, want...)[clients] || r.State != api.OK {
						t.Errorf("w %d, limit %d, %v, %d clients: %d, from %d to %d", w, most, c, clients, r.E, r.Start.Size, r.End.Size)
					}
					wantEntries(t, entriesOn(t, d, w), want...)
				}
			}
		}
	}
}

// twins answers two disks that are the same: a log of two epochs, the last batch not durable.
func twins(t testing.TB) (a, b *disk.Disk) {
	t.Helper()
	list := []*disk.Disk{newDisk(t), newDisk(t)}
	for _, d := range list {
		play(t, d, planOf(nil, true, exampleProgram()))
		play(t, d, planOf([]int{1, 1, 0, 0}, false, exampleProgram()))
	}
	return list[0], list[1]
}

// What the recovery meets is the answer, and the disk is as the recovery leaves it.
func TestP25_1_RecoveryFails(t *testing.T) {
	p := planOf([]int{1, 1, 0}, true, exampleProgram())
	check := func(what string, w int, prepare func(d *disk.Disk), want api.Errno) {
		t.Helper()
		a, b := twins(t)
		prepare(a)
		prepare(b)
		r := epoch.Play(a, w, limit, p)
		_, _, e := replay.Recover(b, w, limit)
		if e != want {
			t.Fatalf("%s: Recover: %d, want %d", what, e, want)
		}
		wantError(t, what, r, want)
		wantSameDisks(t, a, b)
	}
	for at := 1; at <= 6; at++ { // two segments are synced, then Create, Append, Sync, SyncNames
		for _, keep := range []int{0, 5, 1000} {
			check("the operation "+strconv.Itoa(at)+" refused", width, func(d *disk.Disk) { d.Plan([]disk.Fault{{At: at, Keep: keep}}, 0) }, api.ErrIO)
		}
		check("the power goes off at "+strconv.Itoa(at), width, func(d *disk.Disk) { d.Plan(nil, at) }, api.ErrCrash)
	}
	check("the power is off", width, (*disk.Disk).Cut, api.ErrCrash)
	check("another width", 4, func(d *disk.Disk) { d.Plan([]disk.Fault{{At: 1}}, 2) }, api.ErrCorrupt)
}

// The operations are counted from those of the recovery on: its six are over, the batch's comes.
func TestP25_1_BehindTheRecovery(t *testing.T) {
	d, _ := twins(t)
	d.Plan([]disk.Fault{{At: 7}}, 0)
	r := play(t, d, planOf([]int{1, 1, 0, 0}, false, exampleProgram()))
	wantEvents(t, r, begun(0, 1, 0), sent(1, 1, 0), does(2, api.EvTake, 1, 1), does(3, api.EvFail, 0, 0))
	if r.Start.Size != 2 || r.State != api.ErrIO || d.Ops() != 7 {
		t.Errorf("Start %d, State %d, Ops %d", r.Start.Size, r.State, d.Ops())
	}
}

// A disk that neither New nor From has made: nothing is promised but that the call ends.
func TestP1_NoRealDisk(t *testing.T) {
	wantError(t, "a disk that was not made", epoch.Play(&disk.Disk{}, width, limit, planOf([]int{1}, true, exampleProgram())), api.ErrNone)
}

// Pick p means p modulo one more than there are programs, from 0 up.
func TestP25_2_WhoIsMeant(t *testing.T) {
	for _, n := range []int{1, 2, 3, 4, 65} {
		programs := make([][]api.Call, n-1)
		for i := range programs {
			programs[i] = []api.Call{{Kind: 9}, {Kind: 9}, {Kind: 9}, {Kind: 9}, {Kind: 9}, {Kind: 9}, {Kind: 9}}
		}
		picks := []int{-1, n, 0, -n, n + 1, 1, -n - 1, math.MaxInt, math.MinInt, math.MinInt + 1, 7*n + n - 1, -7*n + 1, 1 << 32, -1 << 32}
		r := play(t, newDisk(t), planOf(picks, false, programs...))
		var want []api.Event
		steps := map[int]int{}
		for pick, number := range picks {
			actor := meant(number, n)
			if actor == 0 {
				continue // it has nothing to do
			}
			v := begun(pick, actor, steps[actor]/2)
			if steps[actor]%2 == 1 {
				v = ends(pick, actor, steps[actor]/2, api.Answer{E: api.ErrArg})
			}
			steps[actor]++
			want = append(want, v)
		}
		wantEvents(t, r, want...)
	}
}

// An actor that is not ready does nothing, and the pick is gone.
func TestP25_2_InVain(t *testing.T) {
	picks := []int{0, 0, 1, 0, 1, 1, 1, 0, 1, 0, 1, 0, 1, 0, 1, 0, 1, 0, 0, 1}
	r := play(t, newDisk(t), planOf(picks, false, []api.Call{appends(put("a", "1")), {Kind: 9}}))
	wantEvents(t, r, begun(2, 1, 0), sent(4, 1, 0), does(7, api.EvTake, 1, 1), does(9, api.EvWrite, 0, 1), does(11, api.EvSync, 0, 0),
		does(13, api.EvPublish, 0, 1), replies(15, 1, api.Answer{}), ends(16, 1, 0, api.Answer{}), begun(19, 1, 1))
}

// What a client reads ahead of its first Pin is the ledger that was recovered, whenever its first pick comes.
func TestP25_2_WhatIsPinnedAtFirst(t *testing.T) {
	d := newDisk(t)
	play(t, d, planOf(nil, true, []api.Call{appends(put("a", "old"))}))
	first := []api.Call{appends(put("a", "new"))}
	second := []api.Call{gets("a"), entryAt(1), pins(), gets("a")}
	picks := []int{1, 1, 0, 0, 0, 0, 0, 1, 2, 2, 2, 2, 2, 2, 2, 2}
	r := play(t, d, planOf(picks, false, first, second))
	if r.Start.Size != 1 || r.End.Size != 2 {
		t.Fatalf("from %d to %d", r.Start.Size, r.End.Size)
	}
	wantEvents(t, epoch.Report{Events: r.Events[8:]},
		begun(8, 2, 0), ends(9, 2, 0, api.Answer{Value: []byte("old"), Present: true}),
		begun(10, 2, 1), ends(11, 2, 1, api.Answer{E: api.ErrRange}),
		begun(12, 2, 2), ends(13, 2, 2, api.Answer{Root: r.End}),
		begun(14, 2, 3), ends(15, 2, 3, api.Answer{Value: []byte("new"), Present: true}))
}

// Two clients with one Append each: the queue, its line, one batch, and the replies in its order.
func TestP25_2_QueueAndLine(t *testing.T) {
	a, b := put("a", "1"), put("b", "2")
	d := newDisk(t)
	r := play(t, d, planOf([]int{1, 2, 1, 2, 0, 0, 0, 0, 0, 0, 0, 2, 1}, false, []api.Call{appends(a)}, []api.Call{appends(b)}))
	wantEvents(t, r, begun(0, 1, 0), begun(1, 2, 0), sent(2, 1, 0), sent(3, 2, 0), does(4, api.EvTake, 1, 1), does(5, api.EvTake, 2, 2),
		does(6, api.EvWrite, 0, 2), does(7, api.EvSync, 0, 0), does(8, api.EvPublish, 0, 2), replies(9, 1, api.Answer{}), replies(10, 2, api.Answer{Index: 1}),
		ends(11, 2, 0, api.Answer{Index: 1}), ends(12, 1, 0, api.Answer{}))
	wantEntries(t, entriesOn(t, d, width), a, b)
}

// Who is offered first is taken first, whatever the client's number is.
func TestP25_2_FirstOfferedFirstTaken(t *testing.T) {
	var programs [][]api.Call
	for i := range 3 {
		programs = append(programs, []api.Call{appends(put(strconv.Itoa(i+1), ""))})
	}
	d := newDisk(t)
	r := play(t, d, planOf([]int{1, 2, 3, 3, 1, 2}, true, programs...))
	wantEntries(t, entriesOn(t, d, width), put("3", ""), put("1", ""), put("2", ""))
	if r.End.Size != 3 {
		t.Errorf("End %d", r.End.Size)
	}
}

func TestP25_2_Close(t *testing.T) {
	programs := [][]api.Call{{appends(put("a", "")), appends(put("b", ""))}, {closes(), closes(), pins()}}
	r := play(t, newDisk(t), planOf([]int{1, 1, 2, 2, 2, 0, 0, 0, 0, 0, 2, 0, 2, 2, 2, 1, 1, 1, 2, 2, 0, 0}, false, programs...))
	wantEvents(t, r, begun(0, 1, 0), sent(1, 1, 0), begun(2, 2, 0), sent(3, 2, 0), does(5, api.EvTake, 1, 1), does(6, api.EvWrite, 0, 1),
		does(7, api.EvSync, 0, 0), does(8, api.EvPublish, 0, 1), replies(9, 1, api.Answer{}), does(11, api.EvStop, 0, 0), ends(12, 2, 0, api.Answer{}),
		begun(13, 2, 1), ends(14, 2, 1, api.Answer{E: api.ErrClosed}), ends(15, 1, 0, api.Answer{}), begun(16, 1, 1), ends(17, 1, 1, api.Answer{E: api.ErrClosed}),
		begun(18, 2, 2), ends(19, 2, 2, api.Answer{Root: r.End}))
}

// Without Calm it ends behind the picks, and what was not done has not happened.
func TestP25_3_BehindThePicks(t *testing.T) {
	all := []int{1, 1, 0, 0, 0, 0, 0, 1, 1, 1, 1, 1}
	whole := play(t, newDisk(t), planOf(all, false, exampleProgram()))
	if len(whole.Events) != len(all) {
		t.Fatalf("%d events", len(whole.Events))
	}
	for n := range all {
		d := newDisk(t)
		r := play(t, d, planOf(all[:n], false, exampleProgram()))
		wantEvents(t, r, whole.Events[:n]...)
		size := uint64(0)
		if n >= 6 {
			size = 1
		}
		if r.End.Size != size || r.Start.Size != 0 || r.State != api.OK {
			t.Errorf("%d picks: from %d to %d, State %d", n, r.Start.Size, r.End.Size, r.State)
		}
		if got := len(entriesOn(t, d, width)); got != min(n/4, 1) {
			t.Errorf("%d picks: %d entries on the disk", n, got)
		}
	}
}

// Calm goes on behind the picks, from the actor 0 on, whoever was picked last, and counts on.
func TestP25_3_Calm(t *testing.T) {
	r := play(t, newDisk(t), planOf([]int{1, 1, 0}, true, exampleProgram()))
	wantEvents(t, r, begun(0, 1, 0), sent(1, 1, 0), does(2, api.EvTake, 1, 1), does(3, api.EvWrite, 0, 1), does(5, api.EvSync, 0, 0),
		does(7, api.EvPublish, 0, 1), replies(9, 1, api.Answer{}), ends(10, 1, 0, api.Answer{}), begun(12, 1, 1), ends(14, 1, 1, api.Answer{Root: r.End}),
		begun(16, 1, 2), ends(18, 1, 2, api.Answer{Value: []byte("1"), Present: true}))
}

// It ends only behind a whole turn in vain: the last actor alone has something to do.
func TestP25_3_CalmOfTheLast(t *testing.T) {
	programs := make([][]api.Call, 10)
	programs[9] = []api.Call{{Kind: 9}, {Kind: 9}, appends(put("a", "")), {Kind: 9}}
	r := play(t, newDisk(t), planOf([]int{0, 1, 2}, true, programs...))
	if n := len(r.Events); n == 0 || r.Events[n-1].Kind != api.EvEnd || r.Events[n-1].Call != 3 || r.Events[n-1].Pick%11 != (3+10)%11 {
		t.Errorf("%v", r.Events)
	}
}

// Calm ends where all wait for what never comes.
func TestP25_3_CalmWhereAllWait(t *testing.T) {
	d := newDisk(t)
	d.Plan(nil, 5)
	r := play(t, d, planOf(nil, true, exampleProgram(), exampleProgram()))
	if n := len(r.Events); r.Events[n-1].Kind != api.EvCrash || r.State != api.ErrCrash {
		t.Errorf("%v", r.Events)
	}
}

func manyCalls(n int) []api.Call {
	calls := make([]api.Call, n)
	for i := range calls {
		calls[i].Kind = 9
	}
	return calls
}

// Calm adds at most MaxCalm picks.
func TestP25_3_MaxCalm(t *testing.T) {
	for _, c := range []struct{ picks, calls, events, last int }{
		{0, 25000, 50000, 99999}, // one client, so that each second pick is its own
		{0, 25001, 50000, 99999},
		{3, 30000, 50000, 100002},
		{0, 24999, 49998, 99995},
	} {
		r := play(t, newDisk(t), planOf(make([]int, c.picks), true, manyCalls(c.calls)))
		if n := len(r.Events); n != c.events || r.Events[n-1].Pick != c.last {
			t.Errorf("%d calls behind %d picks: %d events, the last one at %d", c.calls, c.picks, n, r.Events[n-1].Pick)
		}
	}
}

func TestP25_3_AllHaveEnded(t *testing.T) {
	before := runtime.NumGoroutine()
	programs := make([][]api.Call, api.MaxClients)
	for i := range programs {
		programs[i] = exampleProgram()
	}
	for _, calm := range []bool{false, true} {
		for _, crash := range []int{0, 5} {
			d := newDisk(t)
			d.Plan(nil, crash)
			play(t, d, planOf(anyPicks(rand.New(rand.NewSource(1)), 65, 100), calm, programs...))
		}
	}
	for range 1000 { // a goroutine that has nothing left to do takes a moment to be gone
		if runtime.NumGoroutine() <= before {
			return
		}
		time.Sleep(time.Millisecond)
	}
	t.Errorf("%d goroutines, before there were %d", runtime.NumGoroutine(), before)
}

// Start is what was recovered, End what is published, not what is written or durable.
func TestP25_4_StartAndEnd(t *testing.T) {
	a, b := put("a", "1"), put("a", "2")
	roots := rootsOf(t, width, a, b)
	d := newDisk(t)
	for i, c := range []struct {
		picks      []int
		own        api.Entry
		start, end int
	}{
		{[]int{1, 1, 0, 0, 0, 0}, a, 0, 1},
		{[]int{1, 1, 0, 0, 0}, b, 1, 1}, // durable, and not published
		{nil, b, 2, 2},
	} {
		r := play(t, d, planOf(c.picks, false, []api.Call{appends(c.own)}))
		if r.Start != roots[c.start] || r.End != roots[c.end] || r.State != api.OK {
			t.Errorf("the epoch %d: from %d to %d, State %d", i, r.Start.Size, r.End.Size, r.State)
		}
	}
}

// A refusal at each operation behind the recovery's: the events go on with the replies, State tells it, and reads go on.
func TestP25_4_Refused(t *testing.T) {
	program := []api.Call{appends(put("a", "1")), appends(put("b", "2")), pins(), gets("a")}
	for at, kinds := range map[int][]byte{5: {api.EvFail}, 6: {api.EvWrite, api.EvFail}} {
		d := newDisk(t)
		d.Plan([]disk.Fault{{At: at}}, 0)
		r := play(t, d, planOf(nil, true, program))
		want := slices.Concat([]byte{api.EvBegin, api.EvSend, api.EvTake}, kinds, []byte{api.EvReply, api.EvEnd, api.EvBegin, api.EvEnd, api.EvBegin, api.EvEnd, api.EvBegin, api.EvEnd})
		if !bytes.Equal(kindsOf(r), want) || r.State != api.ErrIO || r.End != emptyRoot(t, width) || d.Off() {
			t.Errorf("the operation %d is refused: %v, State %d, End %d", at, kindsOf(r), r.State, r.End.Size)
		}
		for _, v := range r.Events {
			failed := v.Kind == api.EvReply || v.Kind == api.EvEnd && v.Call < 2
			if failed && v.Answer.E != api.ErrFailed || !failed && v.Answer.E != api.OK {
				t.Errorf("the operation %d is refused: %v", at, v)
			}
		}
	}
}

// Behind an EvCrash nobody does anything.
func TestP25_4_Crash(t *testing.T) {
	for at, kinds := range map[int][]byte{5: {api.EvCrash}, 6: {api.EvWrite, api.EvCrash}} {
		d := newDisk(t)
		d.Plan(nil, at)
		r := play(t, d, planOf(nil, true, exampleProgram(), []api.Call{appends(put("b", "")), pins()}, nil, manyCalls(2)))
		tail := r.Events[len(r.Events)-len(kinds):]
		if !bytes.Equal(kindsOf(epoch.Report{Events: tail}), kinds) || r.State != api.ErrCrash || r.End.Size != 0 || !d.Off() || d.Ops() != at {
			t.Errorf("the power goes off at %d: %v, State %d", at, kindsOf(r), r.State)
		}
	}
}

// A failed log whose batch is whole all the same: it is not published, and the next epoch has it.
func TestP25_4_RefusedAndThereAllTheSame(t *testing.T) {
	d := newDisk(t)
	d.Plan([]disk.Fault{{At: 5, Keep: 1000}}, 0)
	r := play(t, d, planOf(nil, true, exampleProgram()))
	if r.End.Size != 0 || r.State != api.ErrIO {
		t.Errorf("End %d, State %d", r.End.Size, r.State)
	}
	if r := play(t, d, planOf(nil, false)); r.Start.Size != 1 || r.End != r.Start || r.State != api.OK {
		t.Errorf("the next epoch: from %d to %d, State %d", r.Start.Size, r.End.Size, r.State)
	}
}

// Fields that an event's kind does not name are zero, whatever the call has in its own.
func TestP25_4_Fields(t *testing.T) {
	for seed := range int64(60) {
		random := rand.New(rand.NewSource(seed))
		d := newDisk(t)
		faults, crash := anyTrouble(random)
		d.Plan(faults, crash)
		p := anyPlan(random)
		last := -1
		for _, v := range epoch.Play(d, 8, 100, p).Events {
			if v.Pick <= last || v.Pick < len(p.Picks) && meant(p.Picks[v.Pick], len(p.Programs)+1) != v.Actor {
				t.Errorf("the pick %d of the actor %d, behind %d", v.Pick, v.Actor, last)
			}
			last = v.Pick
			want := api.Event{Pick: v.Pick, Kind: v.Kind}
			switch v.Kind {
			case api.EvTake, api.EvReply:
				want.To, want.N = v.To, v.N
			case api.EvWrite, api.EvPublish:
				want.N = v.N
			case api.EvBegin, api.EvSend, api.EvEnd:
				want.Actor, want.Call = v.Actor, v.Call
			}
			if v.Kind == api.EvEnd || v.Kind == api.EvReply {
				want.Answer = v.Answer
			}
			if !reflect.DeepEqual(v, want) {
				t.Errorf("%v has more than its kind names", v)
			}
		}
	}
}

// The same disk, the same plan: the same report and the same disk, however goroutines run and whatever else is played meanwhile.
func TestP25_5_Same(t *testing.T) {
	type made struct {
		report epoch.Report
		disk   *disk.Disk
	}
	one := func(seed int64) made {
		random := rand.New(rand.NewSource(seed))
		d, _ := disk.New(32)
		faults, crash := anyTrouble(random)
		epoch.Play(d, 4, 200, anyPlan(random))
		d.Plan(faults, crash)
		return made{epoch.Play(d, 4, 200, anyPlan(random)), d}
	}
	const seeds = 40
	var first [seeds]made
	for seed := range first {
		first[seed] = one(int64(seed))
	}
	check := func(seed int) {
		again := one(int64(seed))
		if !reflect.DeepEqual(again.report, first[seed].report) || !reflect.DeepEqual(again.disk.Files(), first[seed].disk.Files()) || again.disk.Ops() != first[seed].disk.Ops() || again.disk.Off() != first[seed].disk.Off() {
			t.Errorf("%d: another report, or another disk", seed)
		}
	}
	for _, procs := range []int{1, 2, 8} {
		old := runtime.GOMAXPROCS(procs)
		var all sync.WaitGroup
		for seed := range seeds {
			all.Go(func() { check(seed) })
		}
		all.Wait()
		runtime.GOMAXPROCS(old)
	}
}

// What is left of the disk's plan is left.
func TestP25_5_ThePlanGoesOn(t *testing.T) {
	d := newDisk(t)
	d.Plan([]disk.Fault{{At: 12}}, 0)
	play(t, d, planOf(nil, true, exampleProgram())) // the operations 1 to 6
	r := play(t, d, planOf(nil, true, exampleProgram()))
	if d.Ops() != 12 || r.State != api.ErrIO { // a Sync, four for a segment, the batch's
		t.Errorf("Ops %d, State %d: %v", d.Ops(), r.State, kindsOf(r))
	}
}

func TestP25_6_Bound(t *testing.T) {
	for _, clients := range []int{1, 2, 7, 63, 64} {
		for _, batch := range []int{1, 2, 33, 64} {
			for _, places := range []int{1, 64} {
				for _, window := range []int{1, 2, 1000, 1<<20 - 1, 1 << 20} {
					want := 0
					for range 5 * clients {
						want += window
					}
					want += window*batch + window*6
					if got := epoch.Bound(clients, config(batch, places), window); got != want {
						t.Errorf("Bound(%d, {%d, %d}, %d): %d, want %d", clients, batch, places, window, got, want)
					}
				}
			}
		}
	}
	bad := []int{0, -1, math.MinInt, math.MaxInt}
	for _, n := range bad {
		for i, got := range []int{epoch.Bound(n, config(2, 1), 3), epoch.Bound(1, config(n, 1), 3), epoch.Bound(1, config(2, n), 3), epoch.Bound(1, config(2, 1), n)} {
			if got != 0 {
				t.Errorf("%d as the argument %d: %d", n, i, got)
			}
		}
	}
	for i, got := range []int{epoch.Bound(65, config(2, 1), 3), epoch.Bound(1, config(65, 1), 3), epoch.Bound(1, config(2, 65), 3), epoch.Bound(1, config(2, 1), 1<<20+1)} {
		if got != 0 {
			t.Errorf("one beyond as the argument %d: %d", i, got)
		}
	}
}

// windowOf answers the least window in which each of the n actors is picked, wherever it begins.
func windowOf(picks []int, n int) int {
	window := 0
	for actor := range n {
		last := -1
		for at, pick := range append(slices.Clone(picks), actor) { // the end counts as a pick of each
			if pick == actor {
				window = max(window, at-last)
				last = at
			}
		}
	}
	return window
}

// checkProgress looks whether each call has ended in time, if enough picks follow, and answers how many it has looked at.
func checkProgress(t *testing.T, p epoch.Plan, r epoch.Report) int {
	t.Helper()
	n := len(p.Programs) + 1
	bound := epoch.Bound(n-1, p.Config, windowOf(p.Picks, n))
	looked := 0
	for at, v := range r.Events {
		if v.Kind != api.EvBegin {
			continue
		}
		end := math.MaxInt
		for _, later := range r.Events[at:] {
			if later.Kind == api.EvEnd && later.Actor == v.Actor && later.Call == v.Call {
				end = later.Pick
			}
		}
		if kind := p.Programs[v.Actor-1][v.Call].Kind; kind != api.CallAppend && kind != api.CallClose {
			next := slices.Index(p.Picks[v.Pick+1:], v.Actor)
			if next >= 0 && end != v.Pick+1+next {
				t.Errorf("a read that began at %d ended at %d, its client's next pick was %d", v.Pick, end, v.Pick+1+next)
			}
		}
		if v.Pick+bound < len(p.Picks) {
			looked++
			if end > v.Pick+bound {
				t.Errorf("the call %d of %d began at %d and ended at %d, the bound is %d", v.Call, v.Actor, v.Pick, end, bound)
			}
		}
	}
	return looked
}

// turns answers picks in rounds in which each actor is picked once, and between them some more, of which the sequencer is mostly none.
func turns(r *rand.Rand, n, rounds int) []int {
	var picks []int
	for range rounds {
		round := r.Perm(n)
		for range r.Intn(4) {
			round = append(round, 1+r.Intn(n-1))
		}
		picks = append(picks, round...)
	}
	return picks
}

// busy answers programs of Appends alone, but that one of them may close in the midst.
func busy(r *rand.Rand, clients int) [][]api.Call {
	programs := make([][]api.Call, clients)
	for i := range programs {
		for range 40 {
			programs[i] = append(programs[i], appends(put("k", "v")))
		}
		if r.Intn(2*clients) == 0 {
			programs[i][r.Intn(40)] = closes()
		}
	}
	return programs
}

func TestP25_7_EverybodyGetsOn(t *testing.T) {
	looked := 0
	for seed := range int64(150) {
		random := rand.New(rand.NewSource(seed))
		clients := 1 + random.Intn(5)
		p := epoch.Plan{Config: config(1+random.Intn(4), 1+random.Intn(3)), Picks: turns(random, clients+1, 150)}
		p.Programs = busy(random, clients)
		if seed%3 == 0 {
			p.Programs = anyPrograms(random, clients, true)
		}
		d := newDisk(t)
		if random.Intn(2) == 0 {
			d.Plan([]disk.Fault{{At: 6 + random.Intn(60), Keep: random.Intn(30)}}, 0)
		}
		r := epoch.Play(d, 4, 100, p)
		if r.E != api.OK {
			t.Fatalf("%d: %d", seed, r.E)
		}
		looked += checkProgress(t, p, r)
	}
	if looked < 1000 {
		t.Errorf("only %d calls", looked)
	}
}

// As many as may be, with each batch as small or as great as may be: the last of the line waits for all others.
func TestP25_7_ManyClients(t *testing.T) {
	for _, batch := range []int{1, 2, api.MaxBatch} {
		const n = api.MaxClients + 1
		p := epoch.Plan{Config: config(batch, 1), Programs: make([][]api.Call, n-1)}
		for i := range p.Programs {
			p.Programs[i] = slices.Repeat([]api.Call{appends(put("k", "v"))}, 20)
		}
		for range 800 {
			for i := range n {
				p.Picks = append(p.Picks, (i+1)%n)
			}
		}
		if looked := checkProgress(t, p, play(t, newDisk(t), p)); looked < n-1 {
			t.Errorf("Batch %d: only %d calls", batch, looked)
		}
	}
}

// After a refusal or a Close Appends end with ErrFailed or ErrClosed, reads go on, and nothing that is not durable is published.
func TestP7_BehindARefusal(t *testing.T) {
	for seed := range int64(150) {
		random := rand.New(rand.NewSource(seed))
		p := anyPlan(random)
		p.Programs = append(p.Programs, []api.Call{appends(put("a", "")), closes(), pins(), gets("a"), appends(put("b", ""))})
		p.Calm = true
		d := newDisk(t)
		d.Plan([]disk.Fault{{At: 5 + random.Intn(20), Keep: random.Intn(60)}}, 0)
		r := epoch.Play(d, 4, 100, p)
		failed, closed := len(r.Events), len(r.Events) // the places of EvFail and EvStop
		for at, v := range r.Events {
			switch {
			case v.Kind == api.EvFail:
				failed = at
			case v.Kind == api.EvStop:
				closed = at
			case at > failed && (v.Kind == api.EvPublish || v.Kind == api.EvReply && v.Answer.E != api.ErrFailed):
				t.Errorf("%d: %v behind a refusal", seed, v)
			}
		}
		ended := 0
		for _, one := range deeds(p, r) {
			ended++
			want := api.OK
			if own := entry.Check(one.call.Entry); one.call.Kind == api.CallAppend && own != api.OK {
				want = own
			} else if one.call.Kind == api.CallAppend && one.begin > failed {
				want = api.ErrFailed
			} else if one.call.Kind == api.CallAppend && one.begin > closed {
				want = api.ErrClosed
			} else if one.call.Kind != api.CallPin {
				continue
			}
			if one.answer.E != want {
				t.Errorf("%d: a call of the kind %d: %d, want %d", seed, one.call.Kind, one.answer.E, want)
			}
		}
		want := 0
		for _, program := range p.Programs {
			want += len(program)
		}
		if ended != want {
			t.Errorf("%d: %d of %d calls have ended", seed, ended, want)
		}
		d.Cut()
		d.Restart(disk.Fate{})
		if got := uint64(len(entriesOn(t, d, 4))); got < r.End.Size {
			t.Errorf("%d: %d are published, %d are durable", seed, r.End.Size, got)
		}
	}
}

// Without a crash or a refusal: one order of Appends and Pins for all.
func TestP3_OneOrder(t *testing.T) {
	for seed := range int64(150) {
		random := rand.New(rand.NewSource(seed))
		d := newDisk(t)
		epoch.Play(d, 8, 200, anyPlan(random))
		p := epoch.Plan{Config: config(1+random.Intn(4), 1+random.Intn(3)), Programs: anyPrograms(random, 4, false), Picks: anyPicks(random, 5, 200), Calm: true}
		r := epoch.Play(d, 8, 200, p)
		log := entriesOn(t, d, 8)
		all := deeds(p, r)
		for _, one := range all {
			if one.call.Kind == api.CallAppend && (one.answer.E != api.OK || one.answer.Index < r.Start.Size || !sameEntry(log[one.answer.Index], one.call.Entry)) {
				t.Errorf("%d: Append: %v", seed, one.answer)
			}
			for _, other := range all {
				if one.end < other.begin {
					checkOrder(t, one, other)
				}
			}
		}
		if r.End.Size != uint64(len(log)) {
			t.Errorf("%d: %d are published of %d", seed, r.End.Size, len(log))
		}
	}
}

// checkOrder looks at two calls of which one ended ahead of the other's beginning.
func checkOrder(t *testing.T, one, other deed) {
	t.Helper()
	switch first, second := one.call.Kind, other.call.Kind; {
	case first == api.CallAppend && second == api.CallAppend:
		if one.answer.Index >= other.answer.Index {
			t.Errorf("the Append %d ended ahead of %d", one.answer.Index, other.answer.Index)
		}
	case first == api.CallAppend && second == api.CallPin:
		if one.answer.Index >= other.answer.Root.Size {
			t.Errorf("the Append %d ended, and a pin has the size %d", one.answer.Index, other.answer.Root.Size)
		}
	case first == api.CallPin && second == api.CallPin:
		if one.answer.Root.Size > other.answer.Root.Size {
			t.Errorf("a pin of the size %d behind one of %d", other.answer.Root.Size, one.answer.Root.Size)
		}
	}
}

// Whatever is refused and wherever the power goes off: each root is that of the log's beginning, and each read answers what is so of what was pinned.
func TestP4_TrueRoots(t *testing.T) {
	for seed := range int64(150) {
		random := rand.New(rand.NewSource(seed))
		d := newDisk(t)
		epoch.Play(d, 8, 200, anyPlan(random))
		d.Plan(anyTrouble(random))
		p := anyPlan(random)
		r := epoch.Play(d, 8, 200, p)
		if r.E != api.OK {
			continue
		}
		d.Restart(disk.Fate{Names: random.Intn(3)})
		log := entriesOn(t, d, 8)
		roots := rootsOf(t, 8, log...)
		if r.Start != roots[r.Start.Size] || r.End != roots[r.End.Size] {
			t.Errorf("%d: from %v to %v", seed, r.Start, r.End)
		}
		for _, one := range deeds(p, r) {
			checkTruth(t, one, log, roots)
		}
	}
}

// checkTruth holds a read against the log, whose first entries, as many as are pinned, alone count.
func checkTruth(t *testing.T, one deed, log []api.Entry, roots []api.Root) {
	t.Helper()
	n := one.pinned
	sealed, _ := digest.Root(8, roots[n])
	claim := api.Claim{Root: sealed}
	value, has := valueOf(log[:n], one.call.Key)
	wantE := api.OK
	switch one.call.Kind {
	case api.CallPin:
		if one.answer.Root != roots[n] || one.answer.E != api.OK {
			t.Errorf("Pin: %v", one.answer)
		}
		return
	case api.CallGet:
		if len(one.call.Key) > api.MaxKey {
			wantE = api.ErrLong
		}
		if one.answer.E != wantE || one.answer.Present != has || !bytes.Equal(one.answer.Value, value) {
			t.Errorf("Get of %s: %v", one.call.Key, one.answer)
		}
		return
	case api.CallKey:
		claim.Kind, claim.Key, claim.Value, claim.Present = api.ClaimKey, one.call.Key, value, has
		if len(one.call.Key) > api.MaxKey {
			wantE = api.ErrLong
		}
	case api.CallEntry:
		if one.call.N >= n {
			wantE = api.ErrRange
			break
		}
		claim.Kind, claim.Index, claim.Entry = api.ClaimEntry, one.call.N, log[one.call.N]
	case api.CallSince:
		if one.call.N > n {
			wantE = api.ErrRange
			break
		}
		if one.answer.E == api.ErrNone { // a size that no batch left
			return
		}
		claim.Kind = api.ClaimSince
		claim.Old, _ = digest.Root(8, roots[one.call.N])
	default:
		return
	}
	if one.answer.E != wantE || wantE == api.OK && proof.Verify(8, claim, one.answer.Receipt) != api.OK {
		t.Errorf("a receipt of the kind %d: %d, want %d", one.call.Kind, one.answer.E, wantE)
	}
}

// The plan is let be, its spare room too, and is not kept: neither the report nor the disk shares its memory.
func TestMemory_Plan(t *testing.T) {
	room := []byte("kvkkspare")
	calls := []api.Call{{Kind: api.CallAppend, Entry: api.Entry{Kind: api.Put, Key: room[:1], Value: room[1:2]}}, pins(), {Kind: api.CallGet, Key: room[2:3]}, {Kind: api.CallKey, Key: room[3:4]}, closes()}
	programs := [][]api.Call{calls[:4], {closes()}}
	picks := []int{-1, 1, 99}
	p := planOf(picks[:2], true, programs[:1]...)
	d := newDisk(t)
	r := play(t, d, p)
	if string(room) != "kvkkspare" || !reflect.DeepEqual(calls[4], closes()) || !reflect.DeepEqual(programs[1], []api.Call{closes()}) || !slices.Equal(picks, []int{-1, 1, 99}) {
		t.Fatalf("changed: %s, %v, %v", room, programs, picks)
	}
	kept := plain(r)
	want := play(t, newDisk(t), p)
	copy(room, "*********")
	clear(calls)
	clear(programs)
	clear(picks)
	wantSame(t, r, kept)
	wantSame(t, r, want)
	wantEntries(t, entriesOn(t, d, width), put("k", "v"))
}

// An answer is new memory, spare room too: no two lists of a report share any, nor those of two reports.
func TestMemory_Report(t *testing.T) {
	reads := []api.Call{gets("a"), entryAt(0), keyOf("a"), since(0)}
	p := planOf(nil, true, slices.Concat(exampleProgram(), reads, reads), slices.Concat([]api.Call{pins()}, reads))
	r := play(t, newDisk(t), p)
	want := plain(r)
	other := play(t, newDisk(t), p)
	for i, v := range r.Events {
		for _, list := range [][]byte{v.Answer.Value, v.Answer.Receipt} {
			list = list[:cap(list)]
			old := bytes.Clone(list)
			for j := range list {
				list[j] ^= 0xff
			}
			for k, w := range r.Events {
				if k != i && !reflect.DeepEqual(plain(epoch.Report{Events: []api.Event{w}}).Events[0], want.Events[k]) {
					t.Fatalf("the event %d has memory of the event %d", k, i)
				}
			}
			copy(list, old)
		}
	}
	clear(r.Events[:cap(r.Events)])
	wantSame(t, other, want)
	wantSame(t, play(t, newDisk(t), p), want)
}

func TestP25_Examples(t *testing.T) {
	r := play(t, newDisk(t), planOf(nil, false, exampleProgram()))
	wantSame(t, r, epoch.Report{Start: emptyRoot(t, 32), End: emptyRoot(t, 32)})

	roots := rootsOf(t, 32, put("a", "1"))
	r = play(t, newDisk(t), planOf([]int{1, 1, 0, 0, 0, 0, 0, 1}, false, exampleProgram()))
	wantSame(t, r, epoch.Report{Start: roots[0], End: roots[1], Events: []api.Event{begun(0, 1, 0), sent(1, 1, 0), does(2, api.EvTake, 1, 1), does(3, api.EvWrite, 0, 1),
		does(4, api.EvSync, 0, 0), does(5, api.EvPublish, 0, 1), replies(6, 1, api.Answer{}), ends(7, 1, 0, api.Answer{})}})

	wantEvents(t, play(t, newDisk(t), planOf([]int{0, 0, 0}, false, exampleProgram())))

	r = play(t, newDisk(t), planOf(nil, true, exampleProgram()))
	wantSame(t, r, epoch.Report{Start: roots[0], End: roots[1], Events: []api.Event{begun(1, 1, 0), sent(3, 1, 0), does(4, api.EvTake, 1, 1), does(6, api.EvWrite, 0, 1),
		does(8, api.EvSync, 0, 0), does(10, api.EvPublish, 0, 1), replies(12, 1, api.Answer{}), ends(13, 1, 0, api.Answer{}),
		begun(15, 1, 1), ends(17, 1, 1, api.Answer{Root: roots[1]}), begun(19, 1, 2), ends(21, 1, 2, api.Answer{Value: []byte("1"), Present: true})}})

	wantError(t, "Batch 0", epoch.Play(newDisk(t), 32, 1000, epoch.Plan{Config: config(0, 1)}), api.ErrArg)
	wantError(t, "65 programs", epoch.Play(newDisk(t), 32, 1000, epoch.Plan{Config: config(2, 1), Programs: make([][]api.Call, 65)}), api.ErrArg)
	wantError(t, "no disk", epoch.Play(nil, 32, 1000, planOf(nil, false, exampleProgram())), api.ErrNone)
	if got := epoch.Bound(1, config(2, 1), 3); got != 39 {
		t.Errorf("Bound: %d", got)
	}
	if got := epoch.Bound(0, config(2, 1), 3); got != 0 {
		t.Errorf("Bound of no clients: %d", got)
	}
}
