package baton_test

import (
	"fmt"
	"math/rand"
	"slices"
	"strings"

	"notary/api"
	"notary/baton"
)

// An actor of these tests does what a script says; the chapter's words, without goroutines, do it a second time.

const (
	opSay   = iota // writes a down
	opPick         // writes its pick down
	opSet          // the variable a gets b
	opAdd          // the variable a gets b more
	opStep         // Step
	opUntil        // Until the variable a is at least b; being asked is written down, and counts the variable 0 up
	opNil          // Until(nil)
	opBad          // Until with a ready that panics from the pick a on
	opPanic        // panics
	opDefer        // a deferred call writes a down
	opRound        // back to the script's beginning, while the variable a, counted up, is at most b
	kinds
)

const variables = 4

type op struct{ kind, a, b int }

// stage is what the actors lay down for each other.
type stage struct {
	vars  [variables]int
	notes []string
}

func (s *stage) note(i int, what string, n int) {
	s.notes = append(s.notes, fmt.Sprintf("%d %s %d", i, what, n))
}

// asked is what a ready of opUntil does.
func (s *stage) asked(i int, o op, pick int) bool {
	s.note(i, "asked at", pick)
	s.vars[0]++
	return s.vars[o.a] >= o.b
}

// plain does what an op does that has nothing to do with the baton, and answers where to go on.
func (s *stage) plain(i, at int, o op, pick int) int {
	switch o.kind {
	case opSay:
		s.note(i, "says", o.a)
	case opPick:
		s.note(i, "goes on by", pick)
	case opSet:
		s.vars[o.a] = o.b
	case opAdd:
		s.vars[o.a] += o.b
	case opRound:
		s.vars[o.a]++
		if s.vars[o.a] <= o.b {
			return 0
		}
	}
	return at + 1
}

// acted is an act by the scripts.
func acted(s *stage, scripts [][]op) func(i int, t *baton.Turn) {
	return func(i int, t *baton.Turn) {
		for at := 0; at < len(scripts[i]); {
			o := scripts[i][at]
			switch o.kind {
			case opStep:
				t.Step()
			case opUntil:
				t.Until(func() bool { return s.asked(i, o, t.Pick()) })
			case opNil:
				t.Until(nil)
			case opBad:
				t.Until(func() bool {
					if t.Pick() >= o.a {
						panic("bad")
					}
					return false
				})
			case opPanic:
				panic(o)
			case opDefer:
				defer s.note(i, "leaves", o.a)
			}
			at = s.plain(i, at, o, t.Pick())
		}
	}
}

// wordActor is an actor in the chapter's words.
type wordActor struct {
	where string // "not begun", "step", "until" or "ended"
	at    int
	leave []int // deferred, the last one first
}

// wordPlay is a play in the chapter's words.
type wordPlay struct {
	stage
	scripts [][]op
	actors  []wordActor
	moves   []baton.Move
}

// wordsOf plays the scripts by the words.
func wordsOf(scripts [][]op, picks []int, calm bool) *wordPlay {
	n := len(scripts)
	p := &wordPlay{scripts: scripts, actors: make([]wordActor, n)}
	for i := range p.actors {
		p.actors[i].where = "not begun"
	}
	for _, pick := range picks {
		for pick < 0 {
			pick += n
		}
		p.pick(pick % n)
	}
	for k, inVain := 0, 0; calm && k < api.MaxCalm && inVain < n; k++ {
		if p.pick(k % n) {
			inVain = 0
		} else {
			inVain++
		}
	}
	for i := range p.actors {
		if w := p.actors[i].where; w == "step" || w == "until" {
			p.ends(i)
		}
	}
	return p
}

func (p *wordPlay) pick(i int) bool {
	moved := true
	switch p.actors[i].where {
	case "not begun", "step":
		p.goOn(i)
	case "until":
		switch p.ask(i) {
		case "true":
			p.actors[i].at++
			p.goOn(i)
		case "false":
			moved = false
		case "panics":
			p.ends(i)
		}
	case "ended":
		moved = false
	}
	p.moves = append(p.moves, baton.Move{Actor: i, Moved: moved})
	return moved
}

// ask answers what the ready says at which the actor stands.
func (p *wordPlay) ask(i int) string {
	o := p.scripts[i][p.actors[i].at]
	switch {
	case o.kind == opBad && len(p.moves) >= o.a:
		return "panics"
	case o.kind == opUntil && p.asked(i, o, len(p.moves)):
		return "true"
	}
	return "false"
}

// goOn lets the actor run till it gives the baton back, or ends.
func (p *wordPlay) goOn(i int) {
	a := &p.actors[i]
	for a.at < len(p.scripts[i]) {
		o := p.scripts[i][a.at]
		switch o.kind {
		case opStep:
			a.where = "step"
			a.at++
			return
		case opUntil, opBad:
			switch p.ask(i) {
			case "false":
				a.where = "until"
				return
			case "panics":
				p.ends(i)
				return
			}
		case opPanic:
			p.ends(i)
			return
		case opDefer:
			a.leave = append(a.leave, o.a)
		}
		a.at = p.plain(i, a.at, o, len(p.moves))
	}
	p.ends(i)
}

func (p *wordPlay) ends(i int) {
	for _, what := range slices.Backward(p.actors[i].leave) {
		p.note(i, "leaves", what)
	}
	p.actors[i].where = "ended"
}

// script answers a script at random, which always comes to its end.
func script(r *rand.Rand) []op {
	l := make([]op, r.Intn(12))
	for i := range l {
		o := op{kind: r.Intn(kinds), a: r.Intn(variables), b: 1 + r.Intn(6)}
		switch o.kind {
		case opPanic: // rare, or little is played
			if r.Intn(4) > 0 {
				o.kind = opStep
			}
		case opBad:
			o.a = r.Intn(40)
		case opSay, opDefer:
			o.a = i
		case opRound:
			o.kind = opAdd // back at the script's end alone
		case opSet:
			o.a = 2 + r.Intn(2) // or a round would never end
		}
		l[i] = o
	}
	if r.Intn(2) == 0 {
		l = append(l, op{opRound, r.Intn(2), 20})
	}
	return l
}

func text(l []baton.Move) string {
	var s strings.Builder
	for _, m := range l {
		fmt.Fprint(&s, m.Actor)
		if !m.Moved {
			s.WriteByte('-')
		}
		s.WriteByte(' ')
	}
	return s.String()
}
