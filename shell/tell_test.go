package shell

import (
	"reflect"
	"slices"
	"testing"

	"notary/api"
	"notary/audit"
	"notary/disk"
	"notary/epoch"
	"notary/seqr"
	"notary/world"
)

// No world that the shell plays has a finding, so how one is told is looked at here.
func TestP28_3_FindingLines(t *testing.T) {
	found := []audit.Finding{{Event: 3, Rule: audit.RuleOrder}, {Event: 12, Rule: audit.RuleShape}}
	if got := findingLines(found); !slices.Equal(got, []string{"3 1", "12 5"}) {
		t.Errorf("%q", got)
	}
	if got := findingLines(nil); !slices.Equal(got, []string{"nothing"}) {
		t.Errorf("%q", got)
	}
}

func TestP28_2_Hex(t *testing.T) {
	for want, p := range map[string][]byte{"-": nil, "00": {0}, "0f": {15}, "a0ff": {160, 255}, "2d": []byte("-")} {
		if got := hexOf(p); got != want {
			t.Errorf("%v: %q, want %q", p, got, want)
		}
	}
}

// No line can make world.Run answer an error; if it did, that is what log, root and audit answer.
func TestP28_6_WorldsError(t *testing.T) {
	for _, line := range []string{"log", "root", "audit"} {
		s := New()
		s.Line("run")
		s.script.Width = 0
		if r := s.Line(line); !reflect.DeepEqual(r, Reply{E: api.ErrArg}) {
			t.Errorf("%s: %v", line, r)
		}
	}
}

// Not all that is laid up shows in what a run answers (the places of the queue, the sector and what is torn never do), so it is looked at here.
func TestP28_3_LaidUp(t *testing.T) {
	s := New()
	if !reflect.DeepEqual(s.script, world.Script{Sector: 64, Width: 32, Limit: 4096}) || !reflect.DeepEqual(s.next, world.Life{Plan: epoch.Plan{Config: seqr.Config{Batch: 4, Places: 4}}}) {
		t.Errorf("a new shell: %v", *s)
	}
	for _, line := range []string{"sector 7", "width 8", "limit 9", "batch 10", "places 11", "put 2 a x", "delete 2 b", "pick 1 2", "pick 3", "calm", "refuse 1 2", "refuse 3 4", "crash 5", "crash 6", "cut", "names 7", "names 8", "keep a 1", "torn b%20 2"} {
		if r := s.Line(line); r.E != api.OK {
			t.Fatalf("%s: %v", line, r)
		}
	}
	put := api.Entry{Kind: api.Put, Key: []byte("a"), Value: []byte("x")}
	want := world.Life{
		Plan: epoch.Plan{
			Config:   seqr.Config{Batch: 10, Places: 11},
			Programs: [][]api.Call{nil, {{Kind: api.CallAppend, Entry: put}, {Kind: api.CallAppend, Entry: api.Entry{Kind: api.Delete, Key: []byte("b")}}}},
			Picks:    []int{1, 2, 3}, Calm: true,
		},
		Faults: []disk.Fault{{At: 1, Keep: 2}, {At: 3, Keep: 4}},
		Crash:  6, Cut: true,
		Fate: disk.Fate{Names: 8, Keeps: []disk.Keep{{Name: "a", Bytes: 1}, {Name: "b ", Bytes: 2, Torn: true}}},
	}
	if !reflect.DeepEqual(s.script, world.Script{Sector: 7, Width: 8, Limit: 9}) || !reflect.DeepEqual(s.next, want) {
		t.Errorf("%v, %v", s.script, s.next)
	}
	s.Line("run")
	if !reflect.DeepEqual(s.script.Lives, []world.Life{want}) || !reflect.DeepEqual(s.next, lifeWith(want.Plan.Config)) {
		t.Errorf("behind run: %v, %v", s.script.Lives, s.next)
	}
}
