package baton_test

import (
	"bytes"
	"math"
	"math/rand"
	"runtime"
	"slices"
	"strconv"
	"sync"
	"sync/atomic"
	"testing"
	"time"

	"notary/api"
	"notary/baton"
)

func wantMoves(t *testing.T, got []baton.Move, want string) {
	t.Helper()
	if text(got) != want {
		t.Fatalf("moves %s, want %s", text(got), want)
	}
}

func wantList[T comparable](t *testing.T, what string, got []T, want ...T) {
	t.Helper()
	if !slices.Equal(got, want) {
		t.Fatalf("%s: %v, want %v", what, got, want)
	}
}

// goroutine answers the number of the goroutine that calls it.
func goroutine() string {
	b := make([]byte, 64)
	return string(bytes.Fields(b[:runtime.Stack(b, false)])[1])
}

func TestP22_1_Meant(t *testing.T) {
	for _, c := range []struct {
		n, pick, actor int
	}{
		{1, 0, 0}, {1, 7, 0}, {1, -7, 0}, {1, math.MinInt, 0}, {1, math.MaxInt, 0},
		{3, 2, 2}, {3, 3, 0}, {3, 4, 1}, {3, -1, 2}, {3, -2, 1}, {3, -3, 0}, {3, -4, 2},
		{2, math.MinInt, 0}, {2, math.MaxInt, 1}, {7, math.MaxInt, 0}, {7, math.MinInt, 6},
		{api.MaxActors, -1, 999}, {api.MaxActors, 1999, 999}, {api.MaxActors, -1000, 0}, {api.MaxActors, math.MinInt, 192},
	} {
		var ran []int
		l := baton.Play(c.n, func(i int, _ *baton.Turn) { ran = append(ran, i) }, []int{c.pick}, false)
		wantList(t, "ran", ran, c.actor)
		wantList(t, "moves", l, baton.Move{Actor: c.actor, Moved: true})
	}
}

func TestP22_1_Table(t *testing.T) {
	open := 0
	var asked int
	l := baton.Play(4, func(i int, turn *baton.Turn) {
		switch i {
		case 0:
			turn.Step()
		case 1, 2:
			turn.Until(func() bool {
				asked++
				if i == 2 && open == 1 {
					panic("no")
				}
				return open == 1
			})
			turn.Step()
		case 3:
			open = 1
			turn.Step()
		}
	}, []int{0, 0, 0, 0, 1, 1, 1, 2, 2, 3, 1, 1, 1, 2, 2, 3, 3}, false)
	wantMoves(t, l, "0 0 0- 0- 1 1- 1- 2 2- 3 1 1 1- 2 2- 3 3- ")
	if asked != 7 { // once at each Until, and once at each pick there
		t.Errorf("asked %d times", asked)
	}
}

func TestP22_1_RunsOnce(t *testing.T) {
	times := [3]int{}
	turns := map[*baton.Turn]int{}
	baton.Play(3, func(i int, turn *baton.Turn) {
		times[i]++
		turns[turn]++
		turn.Step()
	}, []int{0, 1, 2, 0, 1, 2, 0, 1, 2, 2, 1, 0}, true)
	if times != [3]int{1, 1, 1} || len(turns) != 3 {
		t.Errorf("acts ran %v times, %d turns", times, len(turns))
	}
}

func TestP22_WrongArguments(t *testing.T) {
	ran := false
	act := func(int, *baton.Turn) { ran = true }
	for _, n := range []int{0, -1, api.MaxActors + 1, math.MaxInt, math.MinInt} {
		for _, calm := range []bool{false, true} {
			if l := baton.Play(n, act, []int{0, 1, 2}, calm); len(l) != 0 || ran {
				t.Errorf("Play(%d): %d moves, ran %v", n, len(l), ran)
			}
		}
	}
	for _, n := range []int{0, 1, 5, api.MaxActors} {
		if l := baton.Play(n, nil, []int{0, 1}, true); len(l) != 0 {
			t.Errorf("no act: %d moves", len(l))
		}
	}
	if l := baton.Play(2, act, nil, false); len(l) != 0 || ran {
		t.Errorf("no picks: %d moves, ran %v", len(l), ran)
	}
}

func TestP22_OtherTurns(t *testing.T) {
	for _, turn := range []*baton.Turn{nil, new(baton.Turn), {}} {
		for range 3 {
			turn.Step()
			turn.Until(nil)
			turn.Until(func() bool { t.Error("asked"); return false })
			if turn.Pick() != 0 {
				t.Errorf("Pick: %d", turn.Pick())
			}
		}
	}
}

func TestP1_TurnsUsedLate(t *testing.T) {
	var kept []*baton.Turn
	var left []int
	baton.Play(3, func(i int, turn *baton.Turn) {
		kept = append(kept, turn)
		defer func() { left = append(left, i) }()
		defer turn.Step()
		defer turn.Until(func() bool { return false })
		if i > 0 {
			turn.Step()
		}
	}, []int{0, 1, 2, 2}, false)
	wantList(t, "left", left, 0, 1, 2)
	for _, turn := range kept { // nothing is promised but that the calls end
		turn.Step()
		turn.Until(func() bool { return false })
		turn.Pick()
	}
}

func TestP22_Words(t *testing.T) {
	r := rand.New(rand.NewSource(22))
	for range 3000 {
		n := 1 + r.Intn(5)
		scripts := make([][]op, n)
		for i := range scripts {
			scripts[i] = script(r)
		}
		picks := make([]int, r.Intn(40))
		for i := range picks {
			picks[i] = r.Intn(4*n) - 2*n
		}
		calm := r.Intn(2) == 0
		want := wordsOf(scripts, picks, calm)
		got := &stage{}
		moves := baton.Play(n, acted(got, scripts), picks, calm)
		if text(moves) != text(want.moves) || !slices.Equal(got.notes, want.notes) || got.vars != want.vars {
			t.Fatalf("scripts %v, picks %v, calm %v:\n%s\n%v\nwant:\n%s\n%v", scripts, picks, calm, text(moves), got.notes, text(want.moves), want.notes)
		}
	}
}

func TestP22_2_StepGivesTheBatonBack(t *testing.T) {
	var wrote []string
	act := func(i int, turn *baton.Turn) {
		for k := range 3 {
			wrote = append(wrote, strconv.Itoa(i)+"."+strconv.Itoa(k))
			turn.Step()
		}
	}
	l := baton.Play(2, act, []int{0, 0, 1, 0, 1, 1, 0, 1, 0}, false)
	wantMoves(t, l, "0 0 1 0 1 1 0 1 0- ")
	wantList(t, "wrote", wrote, "0.0", "0.1", "1.0", "0.2", "1.1", "1.2")
}

func TestP22_2_UntilKeepsTheBaton(t *testing.T) {
	var wrote []int
	x := 0
	l := baton.Play(2, func(i int, turn *baton.Turn) {
		for k := range 4 {
			turn.Until(func() bool { return x >= 0 }) // true each time: it never stands there
			turn.Until(nil)
			wrote = append(wrote, 10*i+k)
		}
	}, []int{1, 0, 1}, false)
	wantMoves(t, l, "1 0 1- ")
	wantList(t, "wrote", wrote, 10, 11, 12, 13, 0, 1, 2, 3)
}

func TestP22_2_AskedOncePerPick(t *testing.T) {
	var asked []int
	l := baton.Play(1, func(_ int, turn *baton.Turn) {
		for range 2 {
			turn.Until(func() bool {
				asked = append(asked, turn.Pick())
				return len(asked)%4 == 0
			})
		}
	}, []int{0, 0, 0, 0, 0, 0, 0, 0, 0}, false)
	wantMoves(t, l, "0 0- 0- 0 0- 0- 0 0- 0- ")
	wantList(t, "asked at", asked, 0, 1, 2, 3, 3, 4, 5, 6)
}

func TestP22_2_ReadyChangesItsMind(t *testing.T) {
	x, n := false, 0
	l := baton.Play(2, func(i int, turn *baton.Turn) {
		if i == 1 {
			for {
				x = !x
				turn.Step()
			}
		}
		turn.Until(func() bool { return x })
		n++
	}, []int{0, 1, 1, 0, 1, 1, 0, 1, 0, 0}, false)
	wantMoves(t, l, "0 1 1 0- 1 1 0- 1 0 0- ") // what ready said in between, nobody asked
	if n != 1 {
		t.Errorf("went on %d times", n)
	}
}

func TestP22_2_Panics(t *testing.T) {
	for name, fall := range map[string]func(turn *baton.Turn){
		"act":                 func(*baton.Turn) { panic("out") },
		"act, nil":            func(*baton.Turn) { panic(nil) },
		"act, by the runtime": func(turn *baton.Turn) { _ = []int{}[turn.Pick()] },
		"ready, at once":      func(turn *baton.Turn) { turn.Until(func() bool { panic("out") }) },
		"by a deferred call":  func(*baton.Turn) { defer func() { panic("again") }(); panic("out") },
		"Goexit":              func(*baton.Turn) { runtime.Goexit() },
	} {
		var left []int
		l := baton.Play(3, func(i int, turn *baton.Turn) {
			defer func() { left = append(left, i) }()
			turn.Step()
			if i == 1 {
				fall(turn)
			}
			turn.Step()
		}, []int{1, 0, 1, 1, 0, 0, 2}, true)
		if text(l) != "1 0 1 1- 0 0 2 0- 1- 2 0- 1- 2 0- 1- 2- " || !slices.Equal(left, []int{1, 0, 2}) {
			t.Errorf("%s: %s, left %v", name, text(l), left)
		}
	}
}

func TestP22_2_ReadyPanicsAtAPick(t *testing.T) {
	var left []string
	l := baton.Play(2, func(i int, turn *baton.Turn) {
		defer func() { left = append(left, "left") }()
		turn.Until(func() bool {
			if turn.Pick() == 3 {
				panic("out")
			}
			return false
		})
		left = append(left, "went on")
	}, []int{0, 1, 0, 0, 0, 1}, false)
	wantMoves(t, l, "0 1 0- 0 0- 1- ")
	wantList(t, "left", left, "left", "left") // one by its panic, the other at the end
}

func TestP22_2_AskedByTheActor(t *testing.T) {
	own := map[int]string{}
	asked := 0
	check := func(i int, what string) {
		if own[i] != goroutine() {
			t.Errorf("actor %d: %s by another goroutine", i, what)
		}
	}
	here := goroutine()
	baton.Play(3, func(i int, turn *baton.Turn) {
		own[i] = goroutine()
		defer check(i, "a deferred call")
		turn.Step()
		check(i, "behind Step")
		turn.Until(func() bool {
			asked++
			check(i, "ready")
			return asked > 7
		})
		check(i, "behind Until")
	}, []int{0, 1, 2, 2, 1, 0, 0, 1, 2, 2, 1}, false)
	if len(own) != 3 || own[0] == own[1] || own[1] == own[2] || own[0] == own[2] || own[0] == here || own[1] == here || own[2] == here {
		t.Errorf("not a goroutine of its own each: %v, Play's %s", own, here)
	}
}

func TestP22_3_Calm(t *testing.T) {
	steps := func(times ...int) func(i int, turn *baton.Turn) {
		return func(i int, turn *baton.Turn) {
			for range times[i] {
				turn.Step()
			}
		}
	}
	for _, c := range []struct {
		times []int
		picks []int
		moves string
	}{
		{[]int{0}, nil, "0 0- "},
		{[]int{0, 0, 0}, nil, "0 1 2 0- 1- 2- "},
		{[]int{1, 0, 0}, nil, "0 1 2 0 1- 2- 0- "},
		{[]int{0, 0, 1}, nil, "0 1 2 0- 1- 2 0- 1- 2- "},
		{[]int{0, 0}, []int{0, 1, 0, 1, 1, 1}, "0 1 0- 1- 1- 1- 0- 1- "}, // picks in vain don't count, those of calm alone
		{[]int{0, 0}, []int{1}, "1 0 1- 0- "},                            // begins at 0, whoever was picked last
		{[]int{2, 0}, []int{0}, "0 0 1 0 1- 0- "},
	} {
		wantMoves(t, baton.Play(len(c.times), steps(c.times...), c.picks, true), c.moves)
	}
	never := func(_ int, turn *baton.Turn) { turn.Until(func() bool { return false }) }
	wantMoves(t, baton.Play(3, never, []int{2, 1, 0}, true), "2 1 0 0- 1- 2- ")
}

func TestP22_3_MaxCalm(t *testing.T) {
	for _, n := range []int{1, 3, api.MaxActors} {
		left := 0
		l := baton.Play(n, func(_ int, turn *baton.Turn) {
			defer func() { left++ }()
			for {
				turn.Step()
			}
		}, []int{0, 0, -1, 0, 0}, true)
		if len(l) != 5+api.MaxCalm || left != n {
			t.Fatalf("%d actors: %d moves, %d ended", n, len(l), left)
		}
		for k, m := range l[5:] {
			if m != (baton.Move{Actor: k % n, Moved: true}) {
				t.Fatalf("%d actors: the pick %d of calm: %v", n, k, m)
			}
		}
	}
}

func TestP22_3_BothAtOnce(t *testing.T) {
	// each moves at so many picks: the last round that may be is the first one in vain, or is not there any more, or is not needed
	const n = api.MaxActors
	const rounds = api.MaxCalm / n
	for _, c := range []struct{ picks, moves int }{
		{rounds - 2, api.MaxCalm - n}, {rounds - 1, api.MaxCalm}, {rounds, api.MaxCalm}, {rounds + 1, api.MaxCalm},
	} {
		l := baton.Play(n, func(_ int, turn *baton.Turn) {
			for range c.picks - 1 {
				turn.Step()
			}
		}, nil, true)
		if len(l) != c.moves || l[len(l)-1].Moved != (c.picks >= rounds) {
			t.Errorf("each moves at %d picks: %d moves, the last %v", c.picks, len(l), l[len(l)-1])
		}
	}
}

func TestP22_4_TheEnd(t *testing.T) {
	var left []string
	var running atomic.Int64
	alone := func(name string) {
		if running.Add(1) != 1 {
			t.Error("two are ended at the same time")
		}
		runtime.Gosched()
		left = append(left, name)
		running.Add(-1)
	}
	asks := 0
	baton.Play(6, func(i int, turn *baton.Turn) {
		name := strconv.Itoa(i)
		defer alone(name + " outer")
		func() {
			defer alone(name + " inner")
			switch i {
			case 5:
				return
			case 1, 4:
				turn.Step()
			default:
				turn.Until(func() bool { asks++; return false })
			}
			t.Errorf("the call of %d returned", i)
		}()
		if i != 5 {
			t.Errorf("%d went on", i)
		}
	}, []int{4, 3, 5, 1, 0}, false)
	wantList(t, "left", left, "5 inner", "5 outer", "0 inner", "0 outer", "1 inner", "1 outer", "3 inner", "3 outer", "4 inner", "4 outer")
	if asks != 2 { // at their first picks: nobody is asked at the end
		t.Errorf("asked %d times", asks)
	}
}

func TestP22_4_DeferredCallsPanic(t *testing.T) {
	var left []int
	baton.Play(3, func(i int, turn *baton.Turn) {
		defer func() {
			left = append(left, i)
			panic("at the end")
		}()
		turn.Step()
	}, []int{2, 1, 0}, false)
	wantList(t, "left", left, 0, 1, 2)
}

func TestP22_4_AllHaveEnded(t *testing.T) {
	before := runtime.NumGoroutine()
	for _, calm := range []bool{false, true} {
		late := 0
		baton.Play(200, func(i int, turn *baton.Turn) {
			defer func() {
				time.Sleep(10 * time.Microsecond)
				late++ // not by a lock: it must have ended when Play answers
			}()
			if i%3 == 0 {
				turn.Until(func() bool { return false })
			} else if i%3 == 1 {
				turn.Step()
			}
		}, []int{0, 1, 2, 3, 4, 5, 6, 7, 8}, calm)
		if want := map[bool]int{false: 9, true: 200}[calm]; late != want {
			t.Errorf("%d have ended, want %d", late, want)
		}
	}
	for range 1000 { // a goroutine that has nothing left to do takes a moment to be gone
		if runtime.NumGoroutine() <= before {
			return
		}
		time.Sleep(time.Millisecond)
	}
	t.Errorf("%d goroutines, before there were %d", runtime.NumGoroutine(), before)
}

func TestP22_5_Pick(t *testing.T) {
	var at []int
	x := 0
	l := baton.Play(2, func(i int, turn *baton.Turn) {
		at = append(at, turn.Pick(), turn.Pick())
		turn.Step()
		at = append(at, turn.Pick())
		if i == 0 {
			x = 1
			return
		}
		turn.Until(func() bool { at = append(at, 100+turn.Pick()); return x == 1 })
		at = append(at, turn.Pick())
	}, []int{1, 1, 1, 0, -1}, true)
	wantMoves(t, l, "1 1 1- 0 1- 0 1 0- 1- ")
	wantList(t, "at", at, 0, 0, 1, 101, 102, 3, 3, 104, 5, 106, 6)
}

func TestP22_6_OneAtATime(t *testing.T) {
	var running atomic.Int64
	hold := func() {
		if running.Add(1) != 1 {
			t.Error("two run at the same time")
		}
		runtime.Gosched()
		running.Add(-1)
	}
	sum, turnsLeft := 0, 300
	act := func(i int, turn *baton.Turn) {
		for range 10 {
			hold()
			k := sum // another one's write in between would be lost
			runtime.Gosched()
			sum = k + 1
			turn.Step()
			turn.Until(func() bool { hold(); turnsLeft--; return turnsLeft%3 == 0 || turnsLeft < 0 })
		}
	}
	baton.Play(20, act, nil, true)
	if sum != 200 {
		t.Errorf("%d, want 200", sum)
	}
}

func TestP22_6_ByThePicksAlone(t *testing.T) {
	r := rand.New(rand.NewSource(226))
	scripts := make([][]op, 6)
	for i := range scripts {
		for range 4 {
			scripts[i] = append(scripts[i], op{opSay, i, 0}, op{opStep, 0, 0}, op{opAdd, 1, 1}, op{opUntil, 1, 3 * i})
		}
	}
	picks := make([]int, 60)
	for i := range picks {
		picks[i] = r.Int()
	}
	want := wordsOf(scripts, picks, true)
	var all sync.WaitGroup
	for range 8 { // many plays at one time, each for itself
		all.Go(func() {
			for range 10 {
				got := &stage{}
				moves := baton.Play(6, acted(got, scripts), picks, true)
				if text(moves) != text(want.moves) || !slices.Equal(got.notes, want.notes) {
					t.Errorf("%s\n%v\nwant:\n%s\n%v", text(moves), got.notes, text(want.moves), want.notes)
				}
			}
		})
	}
	all.Wait()
}

func TestP22_6_PlayInAPlay(t *testing.T) {
	var wrote []int
	l := baton.Play(2, func(i int, outer *baton.Turn) {
		inner := baton.Play(3, func(k int, turn *baton.Turn) {
			turn.Step()
			wrote = append(wrote, 10*i+k)
		}, []int{2, 1, 2, 1, 0, 0}, false)
		wantMoves(t, inner, "2 1 2 1 0 0 ")
		outer.Step()
		wrote = append(wrote, 100+outer.Pick())
	}, []int{1, 0, 1}, false)
	wantMoves(t, l, "1 0 1 ")
	wantList(t, "wrote", wrote, 12, 11, 10, 2, 1, 0, 102)
}

func TestMemory_Picks(t *testing.T) {
	room := []int{0, 1, 0, 1, 77, 78}
	picks := room[:4]
	l := baton.Play(2, func(i int, turn *baton.Turn) { turn.Step() }, picks, true)
	wantList(t, "picks and their spare room", room, 0, 1, 0, 1, 77, 78)
	wantMoves(t, l, "0 1 0 1 0- 1- ")

	clear(room)
	wantMoves(t, l, "0 1 0 1 0- 1- ")

	own := []int{0, 1, 0, 1} // the list counts as it was handed in, whatever act does to it
	l = baton.Play(2, func(i int, turn *baton.Turn) {
		clear(own)
		turn.Step()
	}, own, false)
	wantMoves(t, l, "0 1 0 1 ")
}

func TestMemory_Answers(t *testing.T) {
	act := func(i int, turn *baton.Turn) { turn.Step() }
	a := baton.Play(2, act, []int{0, 1}, true)
	b := baton.Play(2, act, []int{0, 1}, true)
	want := text(b)
	for _, l := range [][]baton.Move{a, a[:cap(a)]} {
		for i := range l {
			l[i] = baton.Move{Actor: -1}
		}
	}
	wantMoves(t, b, want)
	wantMoves(t, baton.Play(2, act, []int{0, 1}, true), want)
}

func TestP22_Examples(t *testing.T) {
	for _, c := range []struct {
		picks []int
		calm  bool
		wrote []int
		moves string
	}{
		{[]int{0, 1, 1, 0, 0}, false, []int{0, 1, 1, 0}, "0 1 1 0 0- "},
		{[]int{1}, false, []int{1}, "1 "},
		{nil, true, []int{0, 1, 0, 1}, "0 1 0 1 0- 1- "},
		{[]int{-1}, false, []int{1}, "1 "},
	} {
		var wrote []int
		l := baton.Play(2, func(i int, turn *baton.Turn) {
			wrote = append(wrote, i)
			turn.Step()
			wrote = append(wrote, i)
		}, c.picks, c.calm)
		wantMoves(t, l, c.moves)
		wantList(t, "wrote", wrote, c.wrote...)
	}

	x := 0
	var wrote []int
	l := baton.Play(2, func(i int, turn *baton.Turn) {
		if i == 1 {
			x = 1
			return
		}
		turn.Until(func() bool { return x == 1 })
		wrote = append(wrote, turn.Pick())
	}, []int{0, 0, 1, 0}, false)
	wantMoves(t, l, "0 0- 1 0 ")
	wantList(t, "wrote", wrote, 3)
}
