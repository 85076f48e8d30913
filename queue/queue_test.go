package queue_test

import (
	"math"
	"math/rand"
	"runtime"
	"slices"
	"strconv"
	"sync"
	"sync/atomic"
	"testing"
	"weak"

	"notary/api"
	"notary/queue"
)

func made[T any](t testing.TB, places int) *queue.Queue[T] {
	t.Helper()
	q, e := queue.New[T](places)
	if e != api.OK || q == nil {
		t.Fatalf("New(%d): %v, %d", places, q, e)
	}
	return q
}

func wantCounts[T any](t *testing.T, q *queue.Queue[T], in, behind int) {
	t.Helper()
	if q.Len() != in || q.Line() != behind {
		t.Fatalf("Len %d, Line %d, want %d, %d", q.Len(), q.Line(), in, behind)
	}
}

func wantPut[T any](t *testing.T, q *queue.Queue[T], v T, in bool, e api.Errno) {
	t.Helper()
	if gotIn, gotE := q.Put(v); gotIn != in || gotE != e {
		t.Fatalf("Put(%v): %v, %d, want %v, %d", v, gotIn, gotE, in, e)
	}
}

func wantTake[T comparable](t *testing.T, q *queue.Queue[T], v T, has bool) {
	t.Helper()
	if got, gotHas := q.Take(); got != v || gotHas != has {
		t.Fatalf("Take: %v, %v, want %v, %v", got, gotHas, v, has)
	}
}

// fillFrom puts the numbers from first on up to end, and looks where they stand.
func fillFrom(t *testing.T, q *queue.Queue[int], places, first, end int) {
	t.Helper()
	for i := first; i < end; i++ {
		wantPut(t, q, i, i-first < places, api.OK)
	}
}

func TestP21_1_New(t *testing.T) {
	for places := 1; places <= api.MaxCap; places++ {
		q := made[int](t, places)
		wantCounts(t, q, 0, 0)
		if q.Closed() {
			t.Errorf("New(%d) is closed", places)
		}
		wantTake(t, q, 0, false)
		fillFrom(t, q, places, 0, places+2)
		wantCounts(t, q, places, 2)
	}
}

func TestP21_1_WrongPlaces(t *testing.T) {
	for _, places := range []int{0, -1, api.MaxCap + 1, math.MaxInt, math.MinInt, 1 << 32, -64} {
		if q, e := queue.New[string](places); q != nil || e != api.ErrArg {
			t.Errorf("New(%d): %v, %d", places, q, e)
		}
	}
}

func TestP21_2_BehindAllOthers(t *testing.T) {
	q := made[int](t, 3)
	fillFrom(t, q, 3, 1, 6) // 4 and 5 in the line
	wantTake(t, q, 1, true)
	wantCounts(t, q, 3, 1)
	wantPut(t, q, 6, false, api.OK) // full again: 4 has moved up
	wantTake(t, q, 2, true)
	wantTake(t, q, 3, true)
	wantCounts(t, q, 3, 0)
	wantPut(t, q, 7, false, api.OK) // full, though nobody stood in the line
	wantTake(t, q, 4, true)
	wantTake(t, q, 5, true)
	wantCounts(t, q, 2, 0)
	wantPut(t, q, 8, true, api.OK)
	for v := 6; v <= 8; v++ {
		wantTake(t, q, v, true)
	}
	wantPut(t, q, 9, true, api.OK)
	wantTake(t, q, 9, true)
}

func TestP21_2_OnePlace(t *testing.T) {
	q := made[string](t, 1)
	wantPut(t, q, "a", true, api.OK)
	wantPut(t, q, "b", false, api.OK)
	wantCounts(t, q, 1, 1)
	wantTake(t, q, "a", true)
	wantCounts(t, q, 1, 0)
	wantPut(t, q, "c", false, api.OK)
	wantTake(t, q, "b", true)
	wantTake(t, q, "c", true)
	wantTake(t, q, "", false)
	wantPut(t, q, "d", true, api.OK)
}

func TestP21_2_ClosedNothingChanges(t *testing.T) {
	for put := 0; put <= 5; put++ {
		q := made[int](t, 2)
		fillFrom(t, q, 2, 1, put+1)
		if e := q.Close(); e != api.OK {
			t.Fatalf("Close: %d", e)
		}
		for i := range 3 {
			wantPut(t, q, 100+i, false, api.ErrClosed)
			wantCounts(t, q, min(put, 2), max(put-2, 0))
		}
		for v := 1; v <= put; v++ {
			wantTake(t, q, v, true)
			wantPut(t, q, 200, false, api.ErrClosed) // room there is, but it is closed
		}
		wantTake(t, q, 0, false)
	}
}

func TestP21_3_ZeroValues(t *testing.T) {
	type pair struct {
		name string
		at   *int
	}
	wantTake(t, made[string](t, 1), "", false)
	wantTake(t, made[*int](t, 1), nil, false)
	wantTake(t, made[pair](t, 1), pair{}, false)
	wantTake(t, made[[4]byte](t, 1), [4]byte{}, false)
	wantTake(t, made[any](t, 1), nil, false)
	wantTake(t, made[struct{}](t, 1), struct{}{}, false)
	if l, has := made[[]byte](t, 1).Take(); l != nil || has {
		t.Errorf("Take of an empty queue of lists: %v, %v", l, has)
	}

	q := made[*int](t, 1) // a zero value that was put is there: has tells
	wantPut(t, q, nil, true, api.OK)
	wantPut(t, q, nil, false, api.OK)
	wantTake(t, q, nil, true)
	wantTake(t, q, nil, true)
	wantTake(t, q, nil, false)
}

func TestP21_3_LineMovesUp(t *testing.T) {
	const places, all = 4, 1000
	q := made[int](t, places)
	fillFrom(t, q, places, 0, all)
	for v := range all {
		wantCounts(t, q, min(places, all-v), max(0, all-v-places))
		wantTake(t, q, v, true)
	}
	for range 3 {
		wantTake(t, q, 0, false)
		wantCounts(t, q, 0, 0)
	}
}

func TestP21_3_LongLine(t *testing.T) {
	const all = 1 << 19 // a line has no limit, and moving up must not go through all of it
	q := made[int](t, api.MaxCap)
	for v := range all {
		q.Put(v)
	}
	wantCounts(t, q, api.MaxCap, all-api.MaxCap)
	for v := range all {
		if got, has := q.Take(); got != v || !has {
			t.Fatalf("Take: %d, %v, want %d", got, has, v)
		}
		q.Put(all + v)
	}
	wantTake(t, q, all, true)
}

func TestP21_4_Close(t *testing.T) {
	q := made[int](t, 1)
	if e := q.Close(); e != api.OK || !q.Closed() {
		t.Fatalf("Close: %d, Closed %v", e, q.Closed())
	}
	for range 3 {
		if e := q.Close(); e != api.ErrClosed || !q.Closed() {
			t.Fatalf("Close again: %d, Closed %v", e, q.Closed())
		}
	}
	wantTake(t, q, 0, false)
	wantCounts(t, q, 0, 0)
}

func TestP21_4_Nil(t *testing.T) {
	for name, q := range map[string]*queue.Queue[string]{"nil": nil, "not made by New": new(queue.Queue[string])} {
		for range 2 {
			wantPut(t, q, "a", false, api.ErrNone)
			wantTake(t, q, "", false)
			wantCounts(t, q, 0, 0)
			if q.Close() != api.ErrNone || q.Closed() {
				t.Errorf("%s: Close, Closed", name)
			}
		}
	}
}

// words is the chapter's queue in its own words: a queue and a line apart.
type words struct {
	places   int
	in, line []int
	closed   bool
}

func (w *words) put(v int) (bool, api.Errno) {
	switch {
	case w.closed:
		return false, api.ErrClosed
	case len(w.in) < w.places:
		w.in = append(w.in, v)
		return true, api.OK
	}
	w.line = append(w.line, v)
	return false, api.OK
}

func (w *words) take() (int, bool) {
	if len(w.in) == 0 {
		return 0, false
	}
	v := w.in[0]
	w.in = slices.Clone(w.in[1:])
	if len(w.line) > 0 {
		w.in = append(w.in, w.line[0])
		w.line = slices.Clone(w.line[1:])
	}
	return v, true
}

func (w *words) close() api.Errno {
	if w.closed {
		return api.ErrClosed
	}
	w.closed = true
	return api.OK
}

func TestP21_Words(t *testing.T) {
	r := rand.New(rand.NewSource(21))
	for round := range 400 {
		places := 1 + r.Intn(6)
		if round%10 == 0 {
			places = api.MaxCap
		}
		w, q := &words{places: places}, made[int](t, places)
		likes := r.Intn(10) // how much it is put, and how much taken
		for step := range 300 {
			switch {
			case r.Intn(200) == 0:
				if e, want := q.Close(), w.close(); e != want {
					t.Fatalf("Close: %d, want %d", e, want)
				}
			case r.Intn(10) < likes:
				in, e := w.put(step + 1)
				wantPut(t, q, step+1, in, e)
			default:
				v, has := w.take()
				wantTake(t, q, v, has)
			}
			wantCounts(t, q, len(w.in), len(w.line))
			if q.Closed() != w.closed {
				t.Fatalf("Closed: %v, want %v", q.Closed(), w.closed)
			}
		}
	}
}

func TestP21_5_TakenJustOnce(t *testing.T) {
	const senders, each, takers = 8, 400, 5
	q := made[int](t, 3)
	var sending, taking sync.WaitGroup
	var over atomic.Bool
	var got [takers][]int
	for s := range senders {
		sending.Go(func() {
			for i := range each {
				q.Put(s*each + i)
			}
		})
	}
	for k := range takers {
		taking.Go(func() {
			for {
				last := over.Load() // asked ahead of the Take: then nothing is put behind it
				v, has := q.Take()
				if has {
					got[k] = append(got[k], v)
				} else if last {
					return
				}
				runtime.Gosched()
			}
		})
	}
	sending.Wait()
	over.Store(true)
	taking.Wait()
	var times [senders * each]int
	for k, l := range got {
		last := [senders]int{}
		for _, v := range l {
			times[v]++
			if last[v/each] > v%each {
				t.Fatalf("taker %d: sender %d's %d behind its %d", k, v/each, v%each, last[v/each])
			}
			last[v/each] = v % each
		}
	}
	for v, n := range times {
		if n != 1 {
			t.Fatalf("%d was taken %d times", v, n)
		}
	}
	wantCounts(t, q, 0, 0)
}

func TestP21_5_InTheQueueOrInTheLine(t *testing.T) {
	const senders, each = 8, 50
	for _, places := range []int{1, 7, api.MaxCap} {
		q := made[int](t, places)
		var all sync.WaitGroup
		var in atomic.Int64
		for s := range senders {
			all.Go(func() {
				for i := range each {
					if there, _ := q.Put(s*each + i); there {
						in.Add(1)
					}
				}
			})
		}
		all.Wait()
		if int(in.Load()) != places {
			t.Errorf("%d places: %d stand in the queue", places, in.Load())
		}
		wantCounts(t, q, places, senders*each-places)
		last := [senders]int{}
		for range senders * each {
			v, has := q.Take()
			if !has || v%each < last[v/each] {
				t.Fatalf("Take: %d, %v behind %v", v, has, last)
			}
			last[v/each] = v % each
		}
	}
}

func TestP21_5_OneCloses(t *testing.T) {
	for range 200 {
		q := made[int](t, 2)
		var all sync.WaitGroup
		var closed, put atomic.Int64
		for s := range 4 {
			all.Go(func() {
				for range 3 {
					if _, e := q.Put(s); e == api.OK {
						put.Add(1)
					}
				}
				if q.Close() == api.OK {
					closed.Add(1)
				}
				if _, e := q.Put(s); e != api.ErrClosed {
					t.Errorf("Put behind Close: %d", e)
				}
			})
		}
		all.Wait()
		if closed.Load() != 1 {
			t.Fatalf("%d have closed it", closed.Load())
		}
		wantCounts(t, q, min(int(put.Load()), 2), max(int(put.Load())-2, 0))
	}
}

func TestP21_5_ManyCloseAtOnce(t *testing.T) {
	for range 3000 {
		q := made[int](t, 1)
		var all sync.WaitGroup
		var there, closed atomic.Int64
		for range 4 {
			all.Go(func() {
				there.Add(1)
				for there.Load() < 4 { // so that they come as near to one another as may be
					runtime.Gosched()
				}
				if q.Close() == api.OK {
					closed.Add(1)
				}
			})
		}
		all.Wait()
		if closed.Load() != 1 {
			t.Fatalf("%d have closed it", closed.Load())
		}
	}
}

// call is one call of a queue, as one who called it saw it: begun and ended are moments.
type call struct {
	kind         byte // p, t, n (Len), l (Line), c, d (Closed)
	value        int  // put, taken or counted
	told         bool
	e            api.Errno
	begun, ended int64
}

// fits answers whether the words, asked for what the call asked for, answer what it was answered.
func (c call) fits(w *words) bool {
	switch c.kind {
	case 'p':
		told, e := w.put(c.value)
		return told == c.told && e == c.e
	case 't':
		v, told := w.take()
		return v == c.value && told == c.told
	case 'n':
		return len(w.in) == c.value
	case 'l':
		return len(w.line) == c.value
	case 'c':
		return w.close() == c.e
	}
	return w.closed == c.told
}

// oneBehindTheOther answers whether the calls fit the words in some order in which none stands ahead of one that had ended when it began.
func oneBehindTheOther(w words, left []call) bool {
	if len(left) == 0 {
		return true
	}
	for i, c := range left {
		first := true
		for _, other := range left {
			first = first && c.begun < other.ended
		}
		then := words{w.places, slices.Clone(w.in), slices.Clone(w.line), w.closed}
		if first && c.fits(&then) && oneBehindTheOther(then, slices.Delete(slices.Clone(left), i, i+1)) {
			return true
		}
	}
	return false
}

func do(q *queue.Queue[int], kind byte, value int, clock *atomic.Int64) call {
	c := call{kind: kind, begun: clock.Add(1)}
	switch kind {
	case 'p':
		c.value = value
		c.told, c.e = q.Put(value)
	case 't':
		c.value, c.told = q.Take()
	case 'n':
		c.value = q.Len()
	case 'l':
		c.value = q.Line()
	case 'c':
		c.e = q.Close()
	case 'd':
		c.told = q.Closed()
	}
	c.ended = clock.Add(1)
	return c
}

func TestP21_5_AtOneMoment(t *testing.T) {
	r := rand.New(rand.NewSource(215))
	for range 1500 {
		q := made[int](t, 1+r.Intn(2))
		w := words{places: 1}
		if _, e := q.Put(1); e != api.OK {
			t.Fatal(e)
		}
		if in, _ := q.Put(2); in {
			w.places = 2
		}
		w.put(1)
		w.put(2)
		var clock atomic.Int64
		var all sync.WaitGroup
		var saw [3][]call
		for k := range saw {
			kinds := make([]byte, 3)
			for i := range kinds {
				kinds[i] = "pppttttnldc"[r.Intn(11)]
			}
			all.Go(func() {
				for i, kind := range kinds {
					saw[k] = append(saw[k], do(q, kind, 10*(k+1)+i, &clock))
				}
			})
		}
		all.Wait()
		if !oneBehindTheOther(w, slices.Concat(saw[:]...)) {
			t.Fatalf("%d places: no order of these calls fits: %+v", w.places, saw)
		}
	}
}

func TestP21_6_KeptAsItWasPut(t *testing.T) {
	n := 1
	q := made[*int](t, 1)
	q.Put(&n)
	q.Put(&n)
	n = 2
	for range 2 {
		if p, _ := q.Take(); p != &n {
			t.Errorf("Take: another pointer")
		}
	}

	text := []byte("abc")
	l := made[[]byte](t, 1)
	l.Put(text[:2])
	text[0] = 'x'
	got, _ := l.Take()
	if string(got) != "xb" || &got[0] != &text[0] || cap(got) != cap(text) {
		t.Errorf("Take: %q, not the list that was put", got)
	}

	m := made[map[string]int](t, 1)
	own := map[string]int{}
	m.Put(own)
	own["a"] = 1
	if got, _ := m.Take(); got["a"] != 1 {
		t.Errorf("Take: another map")
	}

	a := made[[2]int](t, 1) // an array is its elements: a copy
	array := [2]int{1, 2}
	a.Put(array)
	array[0] = 9
	wantTake(t, a, [2]int{1, 2}, true)
}

func TestP21_6_WhatWasTakenIsNotKept(t *testing.T) {
	q := made[*[64]byte](t, 2)
	var seen []weak.Pointer[[64]byte]
	for range 9 {
		p := new([64]byte)
		seen = append(seen, weak.Make(p))
		q.Put(p)
	}
	for range 8 {
		q.Take()
	}
	runtime.GC()
	for i, p := range seen {
		if kept := p.Value() != nil; kept != (i == 8) {
			t.Errorf("the value %d: kept %v", i, kept)
		}
	}
	runtime.KeepAlive(q)
}

func TestP2_QueuesApart(t *testing.T) {
	a, b := made[int](t, 1), made[int](t, 2)
	a.Put(1)
	b.Put(2)
	b.Put(3)
	a.Close()
	wantCounts(t, a, 1, 0)
	wantCounts(t, b, 2, 0)
	if b.Closed() {
		t.Error("b is closed")
	}
	wantPut(t, b, 4, false, api.OK)
	wantTake(t, b, 2, true)
	wantTake(t, a, 1, true)
	wantTake(t, a, 0, false)
}

func TestP21_Examples(t *testing.T) {
	q := made[int](t, 2)
	fillFrom(t, q, 2, 1, 5)
	wantCounts(t, q, 2, 2)
	wantTake(t, q, 1, true)
	wantCounts(t, q, 2, 1)
	wantTake(t, q, 2, true)
	wantTake(t, q, 3, true)
	wantPut(t, q, 5, true, api.OK)
	wantCounts(t, q, 2, 0)
	wantTake(t, q, 4, true)
	wantTake(t, q, 5, true)
	wantTake(t, q, 0, false)

	closed := made[string](t, 2)
	for i := range 4 {
		closed.Put(strconv.Itoa(i))
	}
	closed.Close()
	wantPut(t, closed, "4", false, api.ErrClosed)
	if e := closed.Close(); e != api.ErrClosed {
		t.Errorf("Close again: %d", e)
	}
	for i := range 4 {
		wantTake(t, closed, strconv.Itoa(i), true)
	}
	wantTake(t, closed, "", false)
}
