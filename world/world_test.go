package world_test

import (
	"math"
	"reflect"
	"runtime"
	"slices"
	"strconv"
	"sync"
	"testing"

	"notary/api"
	"notary/digest"
	"notary/disk"
	"notary/epoch"
	"notary/replay"
	"notary/segment"
	"notary/seqr"
	"notary/world"
)

// lifeOf answers a life of one client that appends these keys one by one; with the configuration {2, 1}.
func lifeOf(picks []int, calm bool, keys ...string) world.Life {
	var program []api.Call
	for _, key := range keys {
		program = append(program, appends(put(key, "v")))
	}
	return world.Life{Plan: epoch.Plan{Config: seqr.Config{Batch: 2, Places: 1}, Programs: [][]api.Call{program}, Picks: picks, Calm: calm}}
}

// scriptOf answers a script with the sector 512, the width 8 and the limit 1000.
func scriptOf(lives ...world.Life) world.Script {
	return world.Script{Sector: 512, Width: 8, Limit: 1000, Lives: lives}
}

// keepAll answers a fate that leaves all names and bytes.
func keepAll() disk.Fate {
	f := disk.Fate{Names: 1000}
	for n := range uint64(20) {
		f.Keeps = append(f.Keeps, disk.Keep{Name: segment.Name(n + 1), Bytes: 1 << 20})
	}
	return f
}

func keysOf(w world.World) string {
	keys := ""
	for _, e := range w.Entries {
		keys += string(e.Key)
	}
	return keys
}

func kindsOf(r epoch.Report) []byte {
	var kinds []byte
	for _, v := range r.Events {
		kinds = append(kinds, v.Kind)
	}
	return kinds
}

// wantWorld runs the script and looks at its keys, and at the sizes with which its lives begin and end, two for each life.
func wantWorld(t testing.TB, what string, s world.Script, keys string, sizes ...uint64) world.World {
	t.Helper()
	w := world.Run(s)
	checkWorld(t, what, s, w)
	var got []uint64
	for _, r := range w.Reports {
		got = append(got, r.Start.Size, r.End.Size)
	}
	if keysOf(w) != keys || !slices.Equal(got, sizes) {
		t.Errorf("%s: the keys %q, the lives' sizes %v, want %q, %v", what, keysOf(w), got, keys, sizes)
	}
	return w
}

func TestP26_1_WrongSector(t *testing.T) {
	for _, sector := range []int{0, -1, api.MaxSector + 1, math.MinInt, math.MaxInt} {
		for _, w := range []int{8, 0} {
			s := scriptOf(lifeOf(nil, true, "a"))
			s.Sector, s.Width = sector, w
			if got := world.Run(s); !reflect.DeepEqual(plain(got), world.World{E: api.ErrArg}) {
				t.Errorf("the sector %d: %v", sector, got)
			}
		}
	}
}

// A width or a limit outside its range: each report has ErrArg, and so has the world.
func TestP26_1_WrongWidthOrLimit(t *testing.T) {
	for _, c := range [][2]int{{0, 1000}, {-1, 1000}, {33, 1000}, {math.MaxInt, 1000}, {8, 0}, {8, -1}, {8, api.MaxLimit + 1}, {8, math.MinInt}, {0, 0}} {
		for n := range 3 {
			s := scriptOf(slices.Repeat([]world.Life{lifeOf(nil, true, "a")}, n)...)
			s.Width, s.Limit = c[0], c[1]
			if n > 0 {
				s.Lives[0].Cut = true
			}
			want := world.World{E: api.ErrArg, Reports: slices.Repeat([]epoch.Report{{E: api.ErrArg}}, n)}
			wantSame(t, strconv.Itoa(c[0])+", "+strconv.Itoa(c[1]), world.Run(s), plain(want))
		}
	}
}

// At each limit it works.
func TestP26_1_Limits(t *testing.T) {
	for _, sector := range []int{1, api.MaxSector} {
		for _, w := range []int{1, api.MaxWidth} {
			for _, limit := range []int{1, api.MaxLimit} {
				s := world.Script{Sector: sector, Width: w, Limit: limit, Lives: []world.Life{lifeOf(nil, true, "a", "b"), lifeOf(nil, true, "c")}}
				wantWorld(t, strconv.Itoa(sector)+", "+strconv.Itoa(w)+", "+strconv.Itoa(limit), s, "abc", 0, 2, 2, 3)
			}
		}
	}
}

func TestP26_1_NoLives(t *testing.T) {
	for _, w := range []int{1, 8, 32} {
		log, _ := digest.NoLog(w)
		pairs, _ := digest.NoMap(w)
		want := world.World{Roots: []api.Root{{Log: log, Map: pairs}}}
		for _, lives := range [][]world.Life{nil, {}} {
			wantSame(t, "no lives", world.Run(world.Script{Sector: 512, Width: w, Limit: 1000, Lives: lives}), want)
		}
	}
}

// The reports stand in the order of the lives, one for each, also for those that could not begin.
func TestP26_1_Reports(t *testing.T) {
	wrong := lifeOf(nil, true, "x")
	wrong.Plan.Config.Batch = 0
	refused := lifeOf(nil, true, "y")
	refused.Faults = []disk.Fault{{At: 1}}
	dark := lifeOf(nil, true, "z")
	dark.Crash = 1
	s := scriptOf(lifeOf(nil, true, "a"), wrong, refused, lifeOf(nil, true, "b"), dark, lifeOf(nil, true, "c"))
	w := wantWorld(t, "six lives", s, "abc", 0, 1, 0, 0, 0, 0, 1, 2, 0, 0, 2, 3)
	var errors []api.Errno
	for _, r := range w.Reports {
		errors = append(errors, r.E)
	}
	if want := []api.Errno{api.OK, api.ErrArg, api.ErrIO, api.OK, api.ErrCrash, api.OK}; !slices.Equal(errors, want) {
		t.Errorf("E of the reports: %v, want %v", errors, want)
	}
}

// A life's operations are counted from its own first one on, whatever was done ahead of it.
func TestP26_1_ThePlanOfALife(t *testing.T) {
	for _, cut := range []bool{false, true} {
		first := lifeOf(nil, true, "a")
		first.Cut = cut
		second := lifeOf(nil, true, "b")
		second.Faults = []disk.Fault{{At: 7}} // a Sync, four for a segment, the batch's, its Sync
		second.Cut = true
		w := wantWorld(t, "a refusal", scriptOf(first, second), "a", 0, 1, 1, 1)
		if w.Reports[1].State != api.ErrIO || w.Reports[0].State != api.OK {
			t.Errorf("States %d, %d", w.Reports[0].State, w.Reports[1].State)
		}
		second.Faults, second.Crash = nil, 7
		w = wantWorld(t, "a crash", scriptOf(first, second, lifeOf(nil, true, "c")), "ac", 0, 1, 1, 1, 1, 2)
		if w.Reports[1].State != api.ErrCrash {
			t.Errorf("State %d", w.Reports[1].State)
		}
	}
}

// What a life's plan has left is gone with the life: it meets neither the next one nor the last recovery.
func TestP26_1_ThePlanEnds(t *testing.T) {
	first := lifeOf(nil, true, "a") // the operations 1 to 6
	for at := 7; at <= 14; at++ {
		first.Faults = append(first.Faults, disk.Fault{At: at})
	}
	wantWorld(t, "faults that are not met", scriptOf(first, lifeOf(nil, true, "b")), "ab", 0, 1, 1, 2)
	wantWorld(t, "faults that are not met, alone", scriptOf(first), "a", 0, 1)
	first.Faults = nil
	for crash := 7; crash <= 13; crash++ {
		first.Crash = crash
		wantWorld(t, "a crash that is not met", scriptOf(first, lifeOf(nil, true, "b")), "ab", 0, 1, 1, 2)
		wantWorld(t, "a crash that is not met, alone", scriptOf(first), "a", 0, 1)
	}
	for _, crash := range []int{0, -1, math.MinInt} {
		first.Crash = crash
		first.Faults = []disk.Fault{{At: crash}}
		wantWorld(t, "never", scriptOf(first), "a", 0, 1)
	}
}

// What is written and not durable: there without a cut; with one what the fate leaves. A fate without a cut counts nothing.
func TestP26_1_Cut(t *testing.T) {
	written := lifeOf([]int{1, 1, 0, 0}, false, "a")
	for _, fate := range []disk.Fate{{}, {Names: 1}, keepAll(), {Keeps: []disk.Keep{{Name: segment.Name(1), Bytes: 10, Torn: true}}}} {
		first := written
		first.Fate = fate
		wantWorld(t, "not cut", scriptOf(first), "a", 0, 0)
		wantWorld(t, "not cut, and another life", scriptOf(first, lifeOf(nil, true, "b")), "ab", 0, 0, 1, 2)
	}
	first := written
	first.Cut = true
	for bytes := range 80 {
		first.Fate = disk.Fate{Keeps: []disk.Keep{{Name: segment.Name(1), Bytes: bytes}}}
		w := world.Run(scriptOf(first))
		checkWorld(t, "cut", scriptOf(first), w)
		if whole := bytes >= frameOf(t); (keysOf(w) == "a") != whole {
			t.Errorf("%d bytes are left, of %d: %q", bytes, frameOf(t), keysOf(w))
		}
	}
}

// frameOf answers how many bytes the batch of a has in a segment.
func frameOf(t testing.TB) int {
	t.Helper()
	p, e := segment.EncodeBatch(api.Batch{Entries: []api.Entry{put("a", "v")}})
	if e != api.OK {
		t.Fatalf("EncodeBatch: %d", e)
	}
	return len(p)
}

// A life that can't begin is cut too.
func TestP26_1_CutOfALifeThatCannotBegin(t *testing.T) {
	written := lifeOf([]int{1, 1, 0, 0}, false, "a")
	wrong := lifeOf(nil, true, "x")
	wrong.Plan.Config.Places = 0
	wantWorld(t, "not cut", scriptOf(written, wrong), "a", 0, 0, 0, 0)
	wrong.Cut = true
	wantWorld(t, "cut", scriptOf(written, wrong), "", 0, 0, 0, 0)
	wrong.Fate = keepAll()
	wantWorld(t, "cut, and all is left", scriptOf(written, wrong), "a", 0, 0, 0, 0)
	dark := lifeOf(nil, true, "x")
	dark.Crash = 1 // at the Sync that the recovery begins with
	wantWorld(t, "dark", scriptOf(written, dark), "", 0, 0, 0, 0)
	dark.Crash = 2 // behind it
	wantWorld(t, "dark behind the Sync", scriptOf(written, dark), "a", 0, 0, 0, 0)
}

// The names that a fate leaves: a segment whose name is lost is lost.
func TestP26_1_Names(t *testing.T) {
	first := lifeOf(nil, true, "a")
	first.Crash = 4 // at the SyncNames of the recovery
	for names, files := range []int{0, 1} {
		first.Fate = keepAll()
		first.Fate.Names = names
		d, _ := disk.New(512)
		d.Plan(nil, first.Crash)
		epoch.Play(d, 8, 1000, first.Plan)
		d.Restart(first.Fate)
		if got := len(d.Files()); got != files {
			t.Fatalf("%d names are left: %d files", names, got)
		}
		wantWorld(t, "names", scriptOf(first, lifeOf(nil, true, "b")), "b", 0, 0, 0, 1)
	}
}

// The power goes off at each operation of the first of two lives, with each fate: and the same with refusals.
func TestP26_2_3_EachOperation(t *testing.T) {
	fates := []disk.Fate{{}, {Names: 1}, keepAll()}
	for _, bytes := range []int{1, 20, 40, 60, 100} {
		for _, torn := range []bool{false, true} {
			f := disk.Fate{Names: 2}
			for n := range uint64(9) {
				f.Keeps = append(f.Keeps, disk.Keep{Name: segment.Name(n + 1), Bytes: bytes, Torn: torn})
			}
			fates = append(fates, f)
		}
	}
	for _, limit := range []int{1, 80, 1000} {
		for at := 1; at <= 30; at++ {
			for _, fate := range fates {
				for _, refused := range []bool{false, true} {
					first := lifeOf(nil, true, "a", "b", "c", "d")
					first.Plan.Programs = append(first.Plan.Programs, []api.Call{pins(), appends(put("e", "v")), pins(), appends(put("f", "v")), pins(), gets("e")})
					first.Fate = fate
					if refused {
						first.Faults, first.Cut = []disk.Fault{{At: at, Keep: at * 7 % 90}}, at%2 == 0
					} else {
						first.Crash = at
					}
					s := world.Script{Sector: 16, Width: 4, Limit: limit, Lives: []world.Life{first, first, lifeOf(nil, true, "z")}}
					w := world.Run(s)
					checkWorld(t, "the operation "+strconv.Itoa(at), s, w)
					if keys := keysOf(w); keys[len(keys)-1] != 'z' {
						t.Errorf("the operation %d: %q", at, keys)
					}
				}
			}
		}
	}
}

// The checks of this file see it if a world does not keep its promises.
func TestP26_2_3_TheChecksSee(t *testing.T) {
	s := scriptOf(lifeOf([]int{1, 1, 0, 0, 0, 0, 0, 1}, false, "a"), lifeOf([]int{1, 1, 0, 0}, false, "b"))
	w := world.Run(s)
	batches, sure := batchesOf(s.Lives[0], w.Reports[0])
	if len(batches) != 1 || sure != 1 || len(acknowledged(s, w)) != 1 || len(told(s.Lives[0], w.Reports[0])) != 2 {
		t.Errorf("%d batches, %d durable, %v acknowledged", len(batches), sure, acknowledged(s, w))
	}
	batches, sure = batchesOf(s.Lives[1], w.Reports[1])
	if len(batches) != 1 || sure != 0 {
		t.Errorf("%d batches, %d durable", len(batches), sure)
	}
	one, two := []api.Entry{put("a", "1")}, []api.Entry{put("b", "1"), put("c", "1")}
	both := [][]api.Entry{one, two}
	for _, c := range []struct {
		entries []api.Entry
		sure    int
		want    bool
	}{{nil, 0, true}, {nil, 1, false}, {one, 1, true}, {one, 2, false}, {two, 0, false}, {slices.Concat(one, two), 2, true}, {slices.Concat(one, two[:1]), 0, false}, {slices.Concat(two, one), 0, false}} {
		if isBeginning(c.entries, both, c.sure) != c.want {
			t.Errorf("%v of which %d are sure: want %v", c.entries, c.sure, c.want)
		}
	}
}

// A batch that was refused, or at which the power went off, may stand there and need not.
func TestP26_3_RefusedBatch(t *testing.T) {
	for keep, keys := range map[int]string{0: "", 1: "", frameOf(t) - 1: "", frameOf(t): "a", 1000: "a"} {
		first := lifeOf(nil, true, "a")
		first.Faults = []disk.Fault{{At: 5, Keep: keep}}
		w := wantWorld(t, "refused", scriptOf(first), keys, 0, 0)
		if w.Reports[0].State != api.ErrIO {
			t.Errorf("State %d", w.Reports[0].State)
		}
	}
	first := lifeOf(nil, true, "a")
	first.Crash = 5
	wantWorld(t, "dark", scriptOf(first), "", 0, 0)
	first.Fate = keepAll()
	wantWorld(t, "dark, and all is left", scriptOf(first), "a", 0, 0)
}

// Requests that were taken and not written are no batch.
func TestP26_3_TakenAlone(t *testing.T) {
	wantWorld(t, "taken", scriptOf(lifeOf([]int{1, 1, 0}, false, "a")), "", 0, 0)
	wantWorld(t, "taken, and another life", scriptOf(lifeOf([]int{1, 1, 0}, false, "a"), lifeOf(nil, true, "b")), "b", 0, 0, 0, 1)
}

// The same script gives the same world, however goroutines run and whatever else is run meanwhile.
func TestP26_5_Same(t *testing.T) {
	const seeds = 60
	var first [seeds]world.World
	for seed := range first {
		first[seed] = world.Run(anyScript(int64(seed)))
	}
	for _, procs := range []int{1, 8} {
		old := runtime.GOMAXPROCS(procs)
		var all sync.WaitGroup
		for seed := range seeds {
			all.Go(func() {
				if !same(world.Run(anyScript(int64(seed))), first[seed]) {
					t.Errorf("%d: another world", seed)
				}
			})
		}
		all.Wait()
		runtime.GOMAXPROCS(old)
	}
}

// The script is let be, its spare room too, and is not kept.
func TestMemory_Script(t *testing.T) {
	for seed := range int64(60) {
		s := anyScript(seed)
		room := append(s.Lives, lifeOf(nil, true, "spare"))
		s.Lives = room[:len(s.Lives)]
		w := world.Run(s)
		if !reflect.DeepEqual(room, append(anyScript(seed).Lives, lifeOf(nil, true, "spare"))) {
			t.Fatalf("%d: the script was changed", seed)
		}
		want := plain(w)
		for _, l := range s.Lives {
			for _, program := range l.Plan.Programs {
				for _, call := range program {
					clear(call.Entry.Key)
					clear(call.Entry.Value)
					clear(call.Key)
				}
				clear(program)
			}
			clear(l.Plan.Programs)
			clear(l.Plan.Picks)
			clear(l.Faults)
			clear(l.Fate.Keeps)
		}
		clear(room)
		wantSame(t, "written over", w, want)
	}
}

// An answer is new memory, spare room too: no two lists of it share any.
func TestMemory_World(t *testing.T) {
	reads := []api.Call{pins(), gets("a"), {Kind: api.CallEntry}, {Kind: api.CallKey, Key: []byte("a")}}
	program := slices.Concat([]api.Call{appends(put("a", "value")), appends(del("b")), appends(put("a", "value"))}, reads, reads)
	life := world.Life{Plan: epoch.Plan{Config: seqr.Config{Batch: 2, Places: 1}, Programs: [][]api.Call{program}, Calm: true}}
	w := world.Run(scriptOf(life, life))
	other := world.Run(scriptOf(life, life))
	want := plain(w)
	var lists [][]byte
	for _, e := range w.Entries {
		lists = append(lists, e.Key, e.Value)
	}
	for _, r := range w.Reports {
		for _, v := range r.Events {
			lists = append(lists, v.Answer.Value, v.Answer.Receipt)
		}
	}
	var wanted [][]byte
	for _, list := range lists {
		wanted = append(wanted, slices.Clone(list))
	}
	for i, list := range lists {
		list = list[:cap(list)]
		old := slices.Clone(list)
		for j := range list {
			list[j] ^= 0xff
		}
		for k := range lists {
			if k != i && !slices.Equal(lists[k], wanted[k]) {
				t.Fatalf("the list %d has memory of the list %d", k, i)
			}
		}
		copy(list, old)
	}
	clear(w.Reports[0].Events[:cap(w.Reports[0].Events)])
	if !reflect.DeepEqual(plain(world.World{Reports: w.Reports[1:]}), plain(world.World{Reports: want.Reports[1:]})) {
		t.Error("the second report has memory of the first one")
	}
	clear(w.Reports)
	clear(w.Entries[:cap(w.Entries)])
	wantSame(t, "entries written over", world.World{Roots: w.Roots}, world.World{Roots: want.Roots})
	clear(w.Roots[:cap(w.Roots)])
	wantSame(t, "another world", other, want)
	wantSame(t, "once more", world.Run(scriptOf(life, life)), want)
}

func TestP26_Examples(t *testing.T) {
	roots, _ := replay.Roots(8, []api.Entry{put("a", "v")})
	wantSame(t, "no lives", world.Run(scriptOf()), world.World{Roots: roots[:1]})
	s := scriptOf()
	s.Sector = 0
	wantSame(t, "the sector 0", world.Run(s), world.World{E: api.ErrArg})
	s = scriptOf()
	s.Width = 0
	wantSame(t, "the width 0", world.Run(s), world.World{E: api.ErrArg})
	s.Lives = []world.Life{lifeOf(nil, true, "a")}
	wantSame(t, "the width 0, one life", world.Run(s), world.World{E: api.ErrArg, Reports: []epoch.Report{{E: api.ErrArg}}})

	inTurn := []int{0, 1, 0, 1}
	w := wantWorld(t, "one life", scriptOf(lifeOf(inTurn, true, "a")), "a", 0, 1)
	last := w.Reports[0].Events[len(w.Reports[0].Events)-1]
	if last.Kind != api.EvEnd || !reflect.DeepEqual(last.Answer, api.Answer{}) || !slices.Equal(w.Roots, roots) {
		t.Errorf("%v, %d roots", last, len(w.Roots))
	}

	first := lifeOf(inTurn, true, "a")
	first.Crash = 6
	w = wantWorld(t, "a crash at the Sync", scriptOf(first), "", 0, 0)
	if want := []byte{api.EvBegin, api.EvSend, api.EvTake, api.EvWrite, api.EvCrash}; !slices.Equal(kindsOf(w.Reports[0]), want) {
		t.Errorf("%v", kindsOf(w.Reports[0]))
	}
	first.Fate = keepAll()
	wantWorld(t, "a crash at the Sync, and all is left", scriptOf(first), "a", 0, 0)

	first = lifeOf(inTurn, true, "a")
	first.Cut = true
	wantWorld(t, "two lives", scriptOf(first, lifeOf(nil, true, "b")), "ab", 0, 1, 1, 2)
}

// The examples of the whole that are a world's: one client with an Append, a Pin and a Get, and two clients.
func TestExamplesOfTheWhole(t *testing.T) {
	one := world.Life{Plan: epoch.Plan{Config: seqr.Config{Batch: 1, Places: 1}, Programs: [][]api.Call{{appends(put("a", "x")), pins(), gets("a")}}}}
	next := lifeOf(nil, false)
	script := func(picks []int, change func(l *world.Life)) world.Script {
		first := one
		first.Plan.Picks = picks
		change(&first)
		s := scriptOf(first, next)
		s.Width = 32
		return s
	}
	asIs := func(*world.Life) {}
	w := wantWorld(t, "2", script([]int{1, 1, 0, 0, 0, 0, 0, 1, 1, 1, 1, 1}, asIs), "a", 0, 1, 1, 1)
	if events := w.Reports[0].Events; len(events) != 12 || events[9].Answer.Root != w.Roots[1] || string(events[11].Answer.Value) != "x" || !events[11].Answer.Present {
		t.Errorf("2: %v", events)
	}
	short := []int{1, 1, 0, 0, 0}
	w = wantWorld(t, "3", script(short, asIs), "a", 0, 0, 1, 1)
	if want := []byte{api.EvBegin, api.EvSend, api.EvTake, api.EvWrite, api.EvSync}; !slices.Equal(kindsOf(w.Reports[0]), want) {
		t.Errorf("3: %v", kindsOf(w.Reports[0]))
	}
	dark := func(l *world.Life) { l.Crash = 6 }
	w = wantWorld(t, "4", script(short, dark), "", 0, 0, 0, 0)
	if want := []byte{api.EvBegin, api.EvSend, api.EvTake, api.EvWrite, api.EvCrash}; !slices.Equal(kindsOf(w.Reports[0]), want) {
		t.Errorf("4: %v", kindsOf(w.Reports[0]))
	}
	wantWorld(t, "4, all kept", script(short, func(l *world.Life) {
		l.Crash = 6
		l.Fate.Keeps = []disk.Keep{{Name: segment.Name(1), Bytes: 1000}}
	}), "a", 0, 0, 1, 1)

	two := world.Life{Plan: epoch.Plan{Config: seqr.Config{Batch: 2, Places: 1}, Programs: [][]api.Call{{appends(put("a", "x"))}, {appends(put("b", "y"))}}, Picks: []int{1, 2, 1, 2, 0, 0, 0, 0, 0, 0, 0, 2, 1}}}
	w = wantWorld(t, "5", scriptOf(two), "ab", 0, 2)
	if events := w.Reports[0].Events; len(events) != 13 || events[5].Kind != api.EvTake || events[8].N != 2 || events[11].Answer.Index != 1 || events[12].Answer.Index != 0 {
		t.Errorf("5: %v", events)
	}

	refused := one
	refused.Plan.Programs = [][]api.Call{{appends(put("a", "x")), appends(put("b", "y")), pins()}}
	refused.Plan.Calm = true
	refused.Faults = []disk.Fault{{At: 5}}
	w = wantWorld(t, "6", scriptOf(refused), "", 0, 0)
	var answers []api.Errno
	for _, v := range w.Reports[0].Events {
		if v.Kind == api.EvEnd || v.Kind == api.EvReply {
			answers = append(answers, v.Answer.E)
		}
	}
	if want := []api.Errno{api.ErrFailed, api.ErrFailed, api.ErrFailed, api.OK}; !slices.Equal(answers, want) {
		t.Errorf("6: %v", answers)
	}
}
