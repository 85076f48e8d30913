package world_test

import (
	"bytes"
	"math/rand"
	"reflect"
	"slices"
	"strconv"
	"testing"

	"notary/api"
	"notary/disk"
	"notary/entry"
	"notary/epoch"
	"notary/replay"
	"notary/segment"
	"notary/seqr"
	"notary/world"
)

// byWords is Run as the chapter has it, with the files that are left read here, not by the log.
func byWords(s world.Script) world.World {
	d, e := disk.New(s.Sector)
	if e != api.OK {
		return world.World{E: api.ErrArg}
	}
	var w world.World
	for i := range s.Lives {
		l := &s.Lives[i]
		d.Plan(l.Faults, l.Crash)
		w.Reports = append(w.Reports, epoch.Play(d, s.Width, s.Limit, l.Plan))
		switch {
		case d.Off():
			d.Restart(l.Fate)
		case l.Cut:
			d.Cut()
			d.Restart(l.Fate)
		}
	}
	if s.Width < 1 || s.Width > 32 || s.Limit < 1 || s.Limit > 1<<20 {
		w.E = api.ErrArg
		return w
	}
	for _, f := range d.Files() {
		read, e := segment.Read(f.Bytes)
		if e != api.OK {
			continue
		}
		for _, b := range read.Batches {
			w.Entries = append(w.Entries, b.Entries...)
		}
	}
	w.Roots, _ = replay.Roots(s.Width, w.Entries)
	return w
}

// plain answers a world with nil for empty lists, which are the same.
func plain(w world.World) world.World {
	var reports []epoch.Report
	for _, r := range w.Reports {
		r.Events = slices.Clone(r.Events)
		for i := range r.Events {
			a := &r.Events[i].Answer
			a.Value, a.Receipt = append([]byte(nil), a.Value...), append([]byte(nil), a.Receipt...)
		}
		if len(r.Events) == 0 {
			r.Events = nil
		}
		reports = append(reports, r)
	}
	var entries []api.Entry
	for _, e := range w.Entries {
		entries = append(entries, api.Entry{Kind: e.Kind, Key: append([]byte(nil), e.Key...), Value: append([]byte(nil), e.Value...)})
	}
	return world.World{E: w.E, Reports: reports, Entries: entries, Roots: append([]api.Root(nil), w.Roots...)}
}

func same(a, b world.World) bool { return reflect.DeepEqual(plain(a), plain(b)) }

func wantSame(t testing.TB, what string, got, want world.World) {
	t.Helper()
	if !same(got, want) {
		t.Fatalf("%s: E %d, %d reports, %d entries, %d roots; want E %d, %d reports, %d entries, %d roots, or other ones",
			what, got.E, len(got.Reports), len(got.Entries), len(got.Roots), want.E, len(want.Reports), len(want.Entries), len(want.Roots))
	}
}

func sameEntry(a, b api.Entry) bool {
	return a.Kind == b.Kind && bytes.Equal(a.Key, b.Key) && bytes.Equal(a.Value, b.Value)
}

func put(key, value string) api.Entry {
	return api.Entry{Kind: api.Put, Key: []byte(key), Value: []byte(value)}
}

func del(key string) api.Entry { return api.Entry{Kind: api.Delete, Key: []byte(key)} }

func appends(e api.Entry) api.Call { return api.Call{Kind: api.CallAppend, Entry: e} }

func pins() api.Call { return api.Call{Kind: api.CallPin} }

func gets(key string) api.Call { return api.Call{Kind: api.CallGet, Key: []byte(key)} }

func closes() api.Call { return api.Call{Kind: api.CallClose} }

// anyCall answers a call, and of Appends an entry that has not been; now and then one that may not be.
func anyCall(r *rand.Rand, serial *int) api.Call {
	*serial++
	key := "k" + strconv.Itoa(r.Intn(5))
	switch n := r.Intn(20); {
	case n < 10:
		return appends(put(key, strconv.Itoa(*serial)))
	case n == 10:
		return appends(del(key))
	case n == 11:
		return appends(api.Entry{Kind: byte(r.Intn(4)), Key: make([]byte, 63+r.Intn(3)), Value: make([]byte, r.Intn(300))})
	case n == 12 && r.Intn(4) == 0:
		return closes()
	case n < 16:
		return pins()
	case n < 18:
		return gets(key)
	}
	return api.Call{Kind: byte(r.Intn(10)), Entry: put(key, strconv.Itoa(*serial)), Key: []byte(key), N: uint64(r.Intn(8))}
}

func anyPlan(r *rand.Rand, serial *int) epoch.Plan {
	clients := r.Intn(5)
	p := epoch.Plan{Config: seqr.Config{Batch: 1 + r.Intn(4), Places: 1 + r.Intn(3)}, Programs: make([][]api.Call, clients), Calm: r.Intn(2) == 0}
	for i := range p.Programs {
		for range r.Intn(8) {
			p.Programs[i] = append(p.Programs[i], anyCall(r, serial))
		}
	}
	for range r.Intn(150) {
		p.Picks = append(p.Picks, r.Intn(2*clients+2)-clients)
	}
	if r.Intn(12) == 0 {
		p.Config.Batch = 65 * r.Intn(2) // it can't begin
	}
	return p
}

// anyFate keeps something of the segments' bytes: little, some, or all.
func anyFate(r *rand.Rand) disk.Fate {
	f := disk.Fate{Names: r.Intn(4) - 1}
	for n := range uint64(30) {
		f.Keeps = append(f.Keeps, disk.Keep{Name: segment.Name(n + 1), Bytes: []int{-1, 0, r.Intn(40), r.Intn(200), 1 << 20}[r.Intn(5)], Torn: r.Intn(2) == 0})
	}
	return f
}

func anyLife(r *rand.Rand, serial *int) world.Life {
	l := world.Life{Plan: anyPlan(r, serial), Cut: r.Intn(3) == 0, Fate: anyFate(r)}
	for range r.Intn(3) {
		l.Faults = append(l.Faults, disk.Fault{At: r.Intn(40), Keep: r.Intn(80)})
	}
	if r.Intn(3) == 0 {
		l.Crash = r.Intn(40)
	}
	return l
}

// anyScript answers a script of up to six lives, in which no two Puts of the same key have the same value.
func anyScript(seed int64) world.Script {
	r := rand.New(rand.NewSource(seed))
	s := world.Script{Sector: []int{1, 16, 512, api.MaxSector}[r.Intn(4)], Width: 1 + r.Intn(32), Limit: []int{1, 60, 300, api.MaxLimit}[r.Intn(4)]}
	serial := 0
	for range r.Intn(7) {
		s.Lives = append(s.Lives, anyLife(r, &serial))
	}
	return s
}

// The chapter's words, written a second time, against Run.
func TestP26_Words(t *testing.T) {
	for seed := range int64(400) {
		wantSame(t, strconv.Itoa(int(seed)), world.Run(anyScript(seed)), byWords(anyScript(seed)))
	}
}

// acknowledged answers the entries whose Appends were answered OK, by their index, in all reports.
func acknowledged(s world.Script, w world.World) map[uint64]api.Entry {
	all := map[uint64]api.Entry{}
	for i, r := range w.Reports {
		for _, v := range r.Events {
			if v.Kind != api.EvEnd || v.Answer.E != api.OK {
				continue
			}
			if call := s.Lives[i].Plan.Programs[v.Actor-1][v.Call]; call.Kind == api.CallAppend {
				all[v.Answer.Index] = call.Entry
			}
		}
	}
	return all
}

// told answers the roots that a report tells.
func told(l world.Life, r epoch.Report) []api.Root {
	roots := []api.Root{r.Start, r.End}
	for _, v := range r.Events {
		if v.Kind == api.EvEnd && l.Plan.Programs[v.Actor-1][v.Call].Kind == api.CallPin {
			roots = append(roots, v.Answer.Root)
		}
	}
	return roots
}

// checkStays is P26.2. It answers how many Appends it has found.
func checkStays(t testing.TB, what string, s world.Script, w world.World) int {
	t.Helper()
	all := acknowledged(s, w)
	for index, e := range all {
		if index >= uint64(len(w.Entries)) || !sameEntry(w.Entries[index], e) {
			t.Fatalf("%s: %v was answered the index %d, and is not there", what, e, index)
		}
	}
	published := uint64(0)
	for i, r := range w.Reports {
		if r.E != api.OK {
			continue
		}
		for _, root := range told(s.Lives[i], r) {
			if root.Size >= uint64(len(w.Roots)) || w.Roots[root.Size] != root {
				t.Fatalf("%s: the life %d tells the root %v, which is none", what, i, root)
			}
		}
		if r.Start.Size < published {
			t.Fatalf("%s: %d were published, and the life %d begins with %d", what, published, i, r.Start.Size)
		}
		for _, v := range r.Events {
			if v.Kind == api.EvPublish {
				published = max(published, v.N)
			}
		}
	}
	return len(all)
}

// batchesOf answers the batches of a life, and how many of them have to stand in the log.
func batchesOf(l world.Life, r epoch.Report) (batches [][]api.Entry, sure int) {
	calls := map[int]api.Call{} // in which each client stands
	var batch []api.Entry
	written := 0
	for _, v := range r.Events {
		switch v.Kind {
		case api.EvBegin:
			calls[v.Actor] = l.Plan.Programs[v.Actor-1][v.Call]
		case api.EvTake:
			batch = append(batch, calls[v.To].Entry)
		case api.EvWrite:
			batches, batch = append(batches, batch), nil
			written = len(batches)
		case api.EvSync:
			sure = written
		case api.EvFail, api.EvCrash:
			if batch != nil { // else it was the Sync of a batch that is one already
				batches, batch = append(batches, batch), nil
			}
		}
	}
	return batches, sure
}

// isBeginning tells whether the entries are a beginning of the batches, whole ones, not fewer than sure.
func isBeginning(entries []api.Entry, batches [][]api.Entry, sure int) bool {
	for n := sure; n <= len(batches); n++ {
		if slices.EqualFunc(entries, slices.Concat(batches[:n]...), sameEntry) {
			return true
		}
	}
	return false
}

// checkNothingElse is P26.3. It answers how many entries stand in the log that no Append was answered OK for.
func checkNothingElse(t testing.TB, what string, s world.Script, w world.World) int {
	t.Helper()
	end := uint64(len(w.Entries))
	for i, r := range slices.Backward(w.Reports) {
		if r.E != api.OK {
			continue
		}
		if r.Start.Size > end {
			t.Fatalf("%s: the life %d begins with %d, and then there are %d", what, i, r.Start.Size, end)
		}
		batches, sure := batchesOf(s.Lives[i], r)
		if added := w.Entries[r.Start.Size:end]; !isBeginning(added, batches, sure) {
			t.Fatalf("%s: the life %d, of %d batches, %d of them durable, added %v", what, i, len(batches), sure, added)
		}
		end = r.Start.Size
	}
	if end != 0 {
		t.Fatalf("%s: %d entries stand there of no life", what, end)
	}
	return len(w.Entries) - len(acknowledged(s, w))
}

// checkWorld looks whether a world keeps P26.2, P26.3 and P26.4.
func checkWorld(t testing.TB, what string, s world.Script, w world.World) (acked, more int) {
	t.Helper()
	if w.E != api.OK {
		t.Fatalf("%s: E %d", what, w.E)
	}
	if len(w.Reports) != len(s.Lives) {
		t.Fatalf("%s: %d reports of %d lives", what, len(w.Reports), len(s.Lives))
	}
	roots, e := replay.Roots(s.Width, w.Entries)
	if e != api.OK || !slices.Equal(roots, w.Roots) {
		t.Fatalf("%s: the roots are not those of the entries", what)
	}
	for _, own := range w.Entries {
		if entry.Check(own) != api.OK {
			t.Fatalf("%s: %v may not be appended", what, own)
		}
	}
	return checkStays(t, what, s, w), checkNothingElse(t, what, s, w)
}

// Whatever the lives are: what was acknowledged stays, nothing else comes, and the last recovery succeeds.
func TestP26_2_3_4_AnyLives(t *testing.T) {
	acked, more := 0, 0
	failed := map[api.Errno]int{}
	for seed := range int64(1500) {
		s := anyScript(seed)
		w := world.Run(s)
		a, m := checkWorld(t, strconv.Itoa(int(seed)), s, w)
		acked, more = acked+a, more+m
		for _, r := range w.Reports {
			failed[r.E]++
			if r.E == api.OK {
				failed[r.State]++
			}
		}
	}
	if acked < 1000 || more < 50 || failed[api.ErrArg] < 50 || failed[api.ErrIO] < 200 || failed[api.ErrCrash] < 200 {
		t.Errorf("%d were acknowledged, %d stand there beside them, and so many lives ended so: %v", acked, more, failed)
	}
}
