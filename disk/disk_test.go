package disk_test

import (
	"bytes"
	"math"
	"math/rand"
	"slices"
	"strings"
	"sync"
	"testing"

	"notary/api"
	"notary/disk"
)

func sameFile(a, b disk.File) bool {
	return a.Name == b.Name && bytes.Equal(a.Bytes, b.Bytes) && a.Synced == b.Synced && a.Named == b.Named
}

func sameFiles(a, b []disk.File) bool { return slices.EqualFunc(a, b, sameFile) }

// made answers a new disk.
func made(t *testing.T, sector int) *disk.Disk {
	t.Helper()
	d, e := disk.New(sector)
	if e != api.OK || d == nil {
		t.Fatalf("New(%d) = %v, %d", sector, d, e)
	}
	return d
}

// from answers a disk with these files.
func from(t *testing.T, sector int, files ...disk.File) *disk.Disk {
	t.Helper()
	d, e := disk.From(sector, files)
	if e != api.OK || d == nil {
		t.Fatalf("From(%d, %v) = %v, %d", sector, files, d, e)
	}
	return d
}

// want holds what a call answered against what the document asks.
func want(t *testing.T, what string, got, e api.Errno) {
	t.Helper()
	if got != e {
		t.Errorf("%s: %d, want %d", what, got, e)
	}
}

// stands holds the disk's files against these.
func stands(t *testing.T, what string, d *disk.Disk, files ...disk.File) {
	t.Helper()
	if got := d.Files(); !sameFiles(got, files) {
		t.Errorf("%s: the files are %v, want %v", what, got, files)
	}
}

// durable answers a file of which all is durable.
func durable(name string, p ...byte) disk.File {
	return disk.File{Name: name, Bytes: p, Synced: len(p), Named: true}
}

func counts(t *testing.T, what string, d *disk.Disk, ops int, off bool) {
	t.Helper()
	if d.Ops() != ops || d.Off() != off {
		t.Errorf("%s: Ops %d, Off %v, want %d, %v", what, d.Ops(), d.Off(), ops, off)
	}
}

func noSectors() []int {
	return []int{0, -1, 4097, 8192, 1<<32 + 8, math.MaxInt, math.MinInt}
}

func TestP6_1_New(t *testing.T) {
	for _, sector := range []int{1, 2, 512, 4095, 4096} {
		d := made(t, sector)
		counts(t, "New", d, 0, false)
		stands(t, "New", d)
		if names := d.Names(); len(names) != 0 {
			t.Errorf("New(%d) has the names %v", sector, names)
		}
		for i := range 5 { // without a plan nothing is refused
			want(t, "SyncNames", d.SyncNames(), api.OK)
			counts(t, "New", d, i+1, false)
		}
	}
	for _, sector := range noSectors() {
		if d, e := disk.New(sector); d != nil || e != api.ErrArg {
			t.Errorf("New(%d) = %v, %d", sector, d, e)
		}
	}
}

func TestP6_1_From(t *testing.T) {
	for _, files := range [][]disk.File{
		nil,
		{},
		{{Name: "a"}},
		{{Name: "a", Bytes: []byte{1, 2}, Synced: 2, Named: true}},
		{{Name: "a", Bytes: []byte{1, 2}}, {Name: "b", Bytes: []byte{3}, Synced: 1}},
		{{Name: "-"}, {Name: "0"}, {Name: "9", Named: true}, {Name: "a"}, {Name: "a-"}, {Name: "a0"}, {Name: "aa"}, {Name: "b"}, {Name: "z"}},
		{{Name: strings.Repeat("z", 40), Bytes: make([]byte, 5000), Synced: 4999}},
	} {
		d := from(t, 4096, files...)
		counts(t, "From", d, 0, false)
		stands(t, "From", d, files...)
		for _, f := range files {
			if p, e := d.Read(f.Name); e != api.OK || !bytes.Equal(p, f.Bytes) {
				t.Errorf("Read(%s) = %x, %d", f.Name, p, e)
			}
		}
	}
	bad := [][]disk.File{
		{{}},
		{{Name: "A"}},
		{{Name: "a.b"}},
		{{Name: strings.Repeat("a", 41)}},
		{{Name: "b"}, {Name: "a"}},
		{{Name: "a"}, {Name: "a"}},
		{{Name: "a"}, {Name: "c"}, {Name: "b"}},
		{{Name: "a"}, {Name: "b"}, {Name: "a"}},
		{{Name: "aa"}, {Name: "a"}},
		{{Name: "a"}, {Name: "-"}},
		{{Name: "a"}, {Name: "0"}},
		{{Name: "a"}, {Name: "B"}},
		{{Name: "a"}, {Name: ""}},
		{{Name: "a", Bytes: []byte{1, 2}, Synced: 3}},
		{{Name: "a", Synced: 1}},
		{{Name: "a", Synced: -1}},
		{{Name: "a", Bytes: []byte{1}, Synced: math.MinInt}},
		{{Name: "a", Bytes: []byte{1}, Synced: math.MaxInt}},
		{{Name: "a"}, {Name: "b", Bytes: []byte{1}, Synced: 2}},
	}
	for _, files := range bad {
		if d, e := disk.From(8, files); d != nil || e != api.ErrForm {
			t.Errorf("From(8, %v) = %v, %d", files, d, e)
		}
	}
	for _, sector := range noSectors() {
		for _, files := range [][]disk.File{nil, {{Name: "a"}}, bad[0], bad[4]} {
			if d, e := disk.From(sector, files); d != nil || e != api.ErrArg {
				t.Errorf("From(%d, %v) = %v, %d", sector, files, d, e)
			}
		}
	}
	d := from(t, 8, disk.File{Name: "a"}, disk.File{Name: "b", Named: true}, disk.File{Name: "c"}, disk.File{Name: "d"})
	want(t, "Create", d.Create("0"), api.OK)
	d.Restart(disk.Fate{Names: 2})
	stands(t, "the first that came are the list's", d, durable("a"), durable("b"), durable("c"))
}

func TestP6_Names(t *testing.T) {
	for b := range 256 {
		e := api.ErrForm
		if strings.IndexByte("abcdefghijklmnopqrstuvwxyz0123456789-", byte(b)) >= 0 {
			e = api.OK
		}
		d := made(t, 8)
		one := string([]byte{byte(b)})
		want(t, "Create of the byte "+one, d.Create(one), e)
		want(t, "Create of it between others", d.Create("a"+one+"a"), e)
		want(t, "Create of it behind others", d.Create("x"+one), e)
		want(t, "Create of it ahead of others", d.Create(one+"yy"), e)
	}
	d := made(t, 8)
	for n := range 60 {
		e := api.ErrForm
		if 1 <= n && n <= 40 {
			e = api.OK
		}
		want(t, "Create of a name by its length", d.Create(strings.Repeat("a", n)), e)
	}
	for _, name := range []string{"é", "a\xff", "日", "a b", "a_b", "a/b", "A", "a\n"} {
		want(t, "Create("+name+")", d.Create(name), api.ErrForm)
	}
}

func TestP6_2_Plan(t *testing.T) {
	d := made(t, 8)
	d.Create("a")
	d.Create("b")
	d.Plan([]disk.Fault{{At: 2}, {At: 3}, {At: math.MaxInt}}, 6)
	counts(t, "Plan", d, 0, false)
	for i, e := range []api.Errno{api.OK, api.ErrIO, api.ErrIO, api.OK} {
		want(t, "Sync", d.Sync("a"), e)
		counts(t, "Sync", d, i+1, false)
	}
	d.Plan([]disk.Fault{{At: 1}}, 0) // takes the place of the one before: neither its faults nor its crash are met
	for i := range 10 {
		e := api.OK
		if i == 0 {
			e = api.ErrIO
		}
		want(t, "Sync by the second plan", d.Sync("a"), e)
	}
	d.Plan(nil, 0)
	for range 10 {
		want(t, "Sync by an empty plan", d.Sync("a"), api.OK)
	}
	d.Plan([]disk.Fault{{At: 0}, {At: -1}, {At: math.MinInt}}, -1)
	for range 3 {
		want(t, "Sync by a plan that is never met", d.Sync("a"), api.OK)
	}
	counts(t, "a plan that is never met", d, 3, false)
	d.Plan(nil, math.MinInt)
	want(t, "Sync", d.Sync("a"), api.OK)
	d.Plan(nil, 1)
	want(t, "Sync at the crash", d.Sync("a"), api.ErrCrash)
	counts(t, "the crash", d, 1, true)
}

func TestP6_2_FirstFaultCounts(t *testing.T) {
	d := made(t, 8)
	d.Create("a")
	d.Plan([]disk.Fault{{At: 2, Keep: 1}, {At: 1, Keep: 2}, {At: 2, Keep: 3}, {At: 1, Keep: 0}}, 0)
	want(t, "Append", d.Append("a", []byte{1, 2, 3}), api.ErrIO)
	want(t, "Append", d.Append("a", []byte{4, 5, 6}), api.ErrIO)
	stands(t, "the first fault counts", d, disk.File{Name: "a", Bytes: []byte{1, 2, 4}})
	d.Plan([]disk.Fault{{At: 1, Keep: 0}, {At: 1, Keep: 9}}, 0)
	want(t, "Append", d.Append("a", []byte{7}), api.ErrIO)
	stands(t, "a first fault that keeps nothing", d, disk.File{Name: "a", Bytes: []byte{1, 2, 4}})
}

func TestP6_2_PlanWithThePowerOff(t *testing.T) {
	d := made(t, 8)
	d.Create("a")
	d.SyncNames()
	d.Cut()
	counts(t, "Cut", d, 2, true)
	d.Plan([]disk.Fault{{At: 1}}, 2)
	counts(t, "Plan", d, 0, true)
	want(t, "Sync", d.Sync("a"), api.ErrCrash)
	counts(t, "Sync", d, 0, true)
	d.Restart(disk.Fate{})
	want(t, "a restart forgets the plan", d.Sync("a"), api.OK)
	want(t, "and its crash", d.Sync("a"), api.OK)
}

func TestP6_3_OwnErrors(t *testing.T) {
	d := made(t, 512)
	for i, c := range []struct {
		what   string
		got, e api.Errno
	}{
		{"Create a", d.Create("a"), api.OK},
		{"Create a again", d.Create("a"), api.ErrExists},
		{"Create A", d.Create("A"), api.ErrForm},
		{"Create nothing", d.Create(""), api.ErrForm},
		{"Append b", d.Append("b", []byte{1}), api.ErrNone},
		{"Append A", d.Append("A", []byte{1}), api.ErrNone},
		{"Append of no bytes to nothing", d.Append("", nil), api.ErrNone},
		{"Sync b", d.Sync("b"), api.ErrNone},
		{"Sync A", d.Sync("A"), api.ErrNone},
		{"Append a", d.Append("a", []byte{1}), api.OK},
		{"Append of no bytes", d.Append("a", nil), api.OK},
		{"Sync a", d.Sync("a"), api.OK},
		{"Create b", d.Create("b"), api.OK},
		{"SyncNames", d.SyncNames(), api.OK},
	} {
		if c.got != c.e {
			t.Errorf("operation %d, %s: %d, want %d", i+1, c.what, c.got, c.e)
		}
	}
	counts(t, "all were counted", d, 14, false)
	stands(t, "own errors change nothing", d, durable("a", 1), durable("b"))
}

// ways are the operations at a disk with the file a (its bytes 1 2 3, two of them durable, its name not), with their own errors.
type way struct {
	what string
	call func(d *disk.Disk) api.Errno
	own  api.Errno
	done []disk.File // how the files stand when it is carried out
	torn []disk.File // how they stand when it meets a fault with the Keep 1
	off  []disk.File // how they stand at the crash
}

func ways() []way {
	a := disk.File{Name: "a", Bytes: []byte{1, 2, 3}, Synced: 2}
	b := disk.File{Name: "b"}
	with := func(p ...byte) disk.File {
		return disk.File{Name: "a", Bytes: append([]byte{1, 2, 3}, p...), Synced: 2}
	}
	synced := disk.File{Name: "a", Bytes: []byte{1, 2, 3}, Synced: 3}
	named := disk.File{Name: "a", Bytes: []byte{1, 2, 3}, Synced: 2, Named: true}
	was := []disk.File{a}
	return []way{
		{"Create b", func(d *disk.Disk) api.Errno { return d.Create("b") }, api.OK, []disk.File{a, b}, was, []disk.File{a, b}},
		{"Create a", func(d *disk.Disk) api.Errno { return d.Create("a") }, api.ErrExists, was, was, was},
		{"Create A", func(d *disk.Disk) api.Errno { return d.Create("A") }, api.ErrForm, was, was, was},
		{"Append a", func(d *disk.Disk) api.Errno { return d.Append("a", []byte{4, 5}) }, api.OK, []disk.File{with(4, 5)}, []disk.File{with(4)}, []disk.File{with(4, 5)}},
		{"Append b", func(d *disk.Disk) api.Errno { return d.Append("b", []byte{4, 5}) }, api.ErrNone, was, was, was},
		{"Sync a", func(d *disk.Disk) api.Errno { return d.Sync("a") }, api.OK, []disk.File{synced}, was, was},
		{"Sync b", func(d *disk.Disk) api.Errno { return d.Sync("b") }, api.ErrNone, was, was, was},
		{"SyncNames", func(d *disk.Disk) api.Errno { return d.SyncNames() }, api.OK, []disk.File{named}, was, was},
	}
}

func TestP6_3_Operations(t *testing.T) {
	start := disk.File{Name: "a", Bytes: []byte{1, 2, 3}, Synced: 2}
	for _, w := range ways() {
		d := from(t, 8, start)
		want(t, w.what, w.call(d), w.own)
		stands(t, w.what, d, w.done...)
		counts(t, w.what, d, 1, false)

		d = from(t, 8, start)
		d.Plan([]disk.Fault{{At: 1, Keep: 1}}, 0)
		refused := w.own
		if w.own == api.OK {
			refused = api.ErrIO
		}
		want(t, w.what+" at a fault", w.call(d), refused)
		stands(t, w.what+" at a fault", d, w.torn...)
		counts(t, w.what+" at a fault", d, 1, false)

		for _, faults := range [][]disk.Fault{nil, {{At: 1, Keep: 1}}, {{At: 1, Keep: -1}}} {
			d = from(t, 8, start)
			d.Plan(faults, 1)
			want(t, w.what+" at the crash", w.call(d), api.ErrCrash)
			stands(t, w.what+" at the crash", d, w.off...)
			counts(t, w.what+" at the crash", d, 1, true)
		}

		d = from(t, 8, start)
		d.Cut()
		want(t, w.what+" with the power off", w.call(d), api.ErrCrash)
		stands(t, w.what+" with the power off", d, start)
		counts(t, w.what+" with the power off", d, 0, true)
	}
}

// The numbers of operations with an error of their own, and of refused ones, are gone too.
func TestP6_3_Numbers(t *testing.T) {
	d := made(t, 8)
	d.Create("a")
	d.Plan([]disk.Fault{{At: 2, Keep: 1}}, 4)
	want(t, "Append 1", d.Append("a", []byte{9}), api.OK)
	want(t, "Append 2", d.Append("a", []byte{10, 11}), api.ErrIO)
	want(t, "Append 3", d.Append("a", []byte{12}), api.OK)
	want(t, "Append 4", d.Append("a", []byte{13, 14}), api.ErrCrash)
	stands(t, "the fourth example", d, disk.File{Name: "a", Bytes: []byte{9, 10, 12, 13, 14}})
	for _, name := range []string{"a", "b", "A"} {
		if p, e := d.Read(name); len(p) != 0 || e != api.ErrCrash {
			t.Errorf("Read(%s) = %x, %d", name, p, e)
		}
		want(t, "Create", d.Create(name), api.ErrCrash)
	}
	if names := d.Names(); len(names) != 0 {
		t.Errorf("Names: %v", names)
	}
	counts(t, "the fourth example", d, 4, true)

	d = made(t, 8)
	d.Plan([]disk.Fault{{At: 2}, {At: 4}}, 5)
	want(t, "an own error", d.Sync("a"), api.ErrNone)
	want(t, "an own error at a fault", d.Sync("a"), api.ErrNone)
	want(t, "Create", d.Create("a"), api.OK)
	d.Read("a")
	d.Names()
	d.Files()
	d.Ops()
	d.Off()
	want(t, "a fault", d.Create("b"), api.ErrIO)
	want(t, "an own error at the crash", d.Append("b", []byte{1}), api.ErrCrash)
	stands(t, "the fifth example", d, disk.File{Name: "a"})
	counts(t, "the fifth example", d, 5, true)
}

func TestP6_3_KeepOfARefusedAppend(t *testing.T) {
	p := []byte{1, 2, 3}
	for _, c := range []struct{ keep, stay int }{{math.MinInt, 0}, {-1, 0}, {0, 0}, {1, 1}, {2, 2}, {3, 3}, {4, 3}, {math.MaxInt, 3}} {
		d := from(t, 8, durable("a", 9))
		d.Plan([]disk.Fault{{At: 1, Keep: c.keep}, {At: 3, Keep: c.keep}}, 0)
		want(t, "Append", d.Append("a", p), api.ErrIO)
		stands(t, "Append", d, disk.File{Name: "a", Bytes: append([]byte{9}, p[:c.stay]...), Synced: 1, Named: true})
		want(t, "Sync behind it", d.Sync("a"), api.OK)
		stands(t, "Sync", d, durable("a", append([]byte{9}, p[:c.stay]...)...))
		want(t, "Append of no bytes", d.Append("a", nil), api.ErrIO)
		stands(t, "Append of no bytes", d, durable("a", append([]byte{9}, p[:c.stay]...)...))
		counts(t, "a fault", d, 3, false)
	}
}

func TestP6_4_CarriedOut(t *testing.T) {
	d := made(t, 8)
	d.Create("b")
	stands(t, "Create", d, disk.File{Name: "b"})
	d.Append("b", []byte{1, 2})
	d.Append("b", []byte{3})
	stands(t, "Append", d, disk.File{Name: "b", Bytes: []byte{1, 2, 3}})
	d.Create("a")
	d.Append("a", []byte{7})
	d.Sync("b")
	stands(t, "Sync", d, disk.File{Name: "a", Bytes: []byte{7}}, disk.File{Name: "b", Bytes: []byte{1, 2, 3}, Synced: 3})
	d.Append("b", []byte{4})
	stands(t, "Append behind what is durable", d, disk.File{Name: "a", Bytes: []byte{7}}, disk.File{Name: "b", Bytes: []byte{1, 2, 3, 4}, Synced: 3})
	d.SyncNames()
	stands(t, "SyncNames", d, disk.File{Name: "a", Bytes: []byte{7}, Named: true}, disk.File{Name: "b", Bytes: []byte{1, 2, 3, 4}, Synced: 3, Named: true})
	d.Create("c")
	stands(t, "a name behind it", d, disk.File{Name: "a", Bytes: []byte{7}, Named: true}, disk.File{Name: "b", Bytes: []byte{1, 2, 3, 4}, Synced: 3, Named: true}, disk.File{Name: "c"})
	d.Sync("a")
	d.Sync("c")
	stands(t, "Sync", d, durable("a", 7), disk.File{Name: "b", Bytes: []byte{1, 2, 3, 4}, Synced: 3, Named: true}, disk.File{Name: "c"})
	counts(t, "all", d, 11, false)
}

func TestP6_5_Looking(t *testing.T) {
	d := made(t, 8)
	names := []string{"m", "aa", "z9", "-", "a", "0", "a-", "9", "a0", "z"}
	for i, name := range names {
		want(t, "Create", d.Create(name), api.OK)
		want(t, "Append", d.Append(name, []byte{byte(i), 1}), api.OK)
	}
	rising := []string{"-", "0", "9", "a", "a-", "a0", "aa", "m", "z", "z9"}
	look := func(what string) {
		t.Helper()
		if got := d.Names(); !slices.Equal(got, rising) {
			t.Errorf("%s: Names: %v", what, got)
		}
		for i, name := range names {
			if p, e := d.Read(name); e != api.OK || !bytes.Equal(p, []byte{byte(i), 1}) {
				t.Errorf("%s: Read(%s) = %x, %d", what, name, p, e)
			}
		}
		for _, name := range []string{"b", "A", "", "a ", strings.Repeat("a", 41)} {
			if p, e := d.Read(name); len(p) != 0 || e != api.ErrNone {
				t.Errorf("%s: Read(%s) = %x, %d", what, name, p, e)
			}
		}
		for i, f := range d.Files() {
			if f.Name != rising[i] || !bytes.Equal(f.Bytes, []byte{byte(slices.Index(names, f.Name)), 1}) || f.Synced != 0 || f.Named {
				t.Errorf("%s: Files: %v", what, f)
			}
		}
		counts(t, what, d, 2*len(names), false)
	}
	look("once")
	look("again")
	d.Plan([]disk.Fault{{At: 1}}, 1)
	d.Read("a")
	d.Read("b")
	d.Names()
	d.Files()
	counts(t, "looking meets no plan", d, 0, false)
	before := d.Files()
	d.Cut()
	stands(t, "Files with the power off", d, before...)
	if got := d.Names(); len(got) != 0 {
		t.Errorf("Names with the power off: %v", got)
	}
	for _, name := range []string{"a", "b", "A", ""} {
		if p, e := d.Read(name); len(p) != 0 || e != api.ErrCrash {
			t.Errorf("Read(%s) with the power off = %x, %d", name, p, e)
		}
	}
}

func TestP6_6_Cut(t *testing.T) {
	d := from(t, 8, durable("a", 1), disk.File{Name: "b", Bytes: []byte{1, 2}, Synced: 1})
	d.Create("c")
	before := d.Files()
	d.Cut()
	counts(t, "Cut", d, 1, true)
	stands(t, "Cut", d, before...)
	d.Cut()
	counts(t, "Cut again", d, 1, true)
	for _, got := range []api.Errno{d.Create("d"), d.Create("A"), d.Append("a", []byte{1}), d.Append("x", nil), d.Sync("b"), d.SyncNames()} {
		want(t, "with the power off", got, api.ErrCrash)
	}
	counts(t, "with the power off", d, 1, true)
	stands(t, "with the power off", d, before...)
}

func TestP6_7_Bytes(t *testing.T) {
	for _, c := range []struct {
		sector int
		synced int
		keeps  []disk.Keep
		want   []byte
	}{
		{8, 3, nil, []byte{1, 2, 3}},
		{8, 3, []disk.Keep{{Name: "a", Bytes: 1, Torn: true}}, []byte{1, 2, 3, 4, 0, 0, 0, 0}},
		{8, 3, []disk.Keep{{Name: "a", Bytes: 1}}, []byte{1, 2, 3, 4}},
		{8, 3, []disk.Keep{{Name: "a", Bytes: 2, Torn: true}}, []byte{1, 2, 3, 4, 5, 0, 0, 0}},
		{8, 3, []disk.Keep{{Name: "a", Bytes: 3, Torn: true}}, []byte{1, 2, 3, 4, 5, 6}},
		{8, 3, []disk.Keep{{Name: "a", Bytes: 4, Torn: true}}, []byte{1, 2, 3, 4, 5, 6}},
		{8, 3, []disk.Keep{{Name: "a", Bytes: math.MaxInt, Torn: true}}, []byte{1, 2, 3, 4, 5, 6}},
		{8, 3, []disk.Keep{{Name: "a", Bytes: 0, Torn: true}}, []byte{1, 2, 3, 0, 0, 0, 0, 0}},
		{8, 3, []disk.Keep{{Name: "a", Bytes: -1, Torn: true}}, []byte{1, 2, 3, 0, 0, 0, 0, 0}},
		{8, 3, []disk.Keep{{Name: "a", Bytes: math.MinInt, Torn: true}}, []byte{1, 2, 3, 0, 0, 0, 0, 0}},
		{8, 3, []disk.Keep{{Name: "a", Bytes: math.MinInt}}, []byte{1, 2, 3}},
		{4, 3, []disk.Keep{{Name: "a", Bytes: 1, Torn: true}}, []byte{1, 2, 3, 4}}, // it ends at a sector's end
		{4, 3, []disk.Keep{{Name: "a", Bytes: 2, Torn: true}}, []byte{1, 2, 3, 4, 5, 0, 0, 0}},
		{3, 3, []disk.Keep{{Name: "a", Torn: true}}, []byte{1, 2, 3}},
		{3, 3, []disk.Keep{{Name: "a", Bytes: 1, Torn: true}}, []byte{1, 2, 3, 4, 0, 0}},
		{1, 3, []disk.Keep{{Name: "a", Bytes: 1, Torn: true}}, []byte{1, 2, 3, 4}},
		{5, 0, []disk.Keep{{Name: "a", Torn: true}}, nil}, // nothing ends at a sector's end
		{5, 0, []disk.Keep{{Name: "a", Bytes: 1, Torn: true}}, []byte{1, 0, 0, 0, 0}},
		{5, 0, nil, nil},
		{8, 6, []disk.Keep{{Name: "a", Bytes: -4, Torn: true}}, []byte{1, 2, 3, 4, 5, 6}}, // nothing is lost
		{8, 6, []disk.Keep{{Name: "a", Bytes: 9, Torn: true}}, []byte{1, 2, 3, 4, 5, 6}},
		{8, 3, []disk.Keep{{Name: "b", Bytes: 2, Torn: true}}, []byte{1, 2, 3}},
		{8, 3, []disk.Keep{{Name: "", Bytes: 2, Torn: true}, {Name: "A", Bytes: 2}}, []byte{1, 2, 3}},
		{8, 3, []disk.Keep{{Name: "b", Bytes: 2}, {Name: "a", Bytes: -5, Torn: true}, {Name: "a", Bytes: 2}}, []byte{1, 2, 3, 0, 0, 0, 0, 0}},
		{8, 3, []disk.Keep{{Name: "a", Bytes: 2}, {Name: "a", Bytes: 1, Torn: true}}, []byte{1, 2, 3, 4, 5}},
		{8, 3, []disk.Keep{{Name: "a"}, {Name: "a", Bytes: 3}}, []byte{1, 2, 3}},
	} {
		for _, off := range []bool{false, true} {
			d := from(t, c.sector, disk.File{Name: "a", Bytes: []byte{1, 2, 3, 4, 5, 6}, Synced: c.synced, Named: true})
			d.Plan([]disk.Fault{{At: 2}}, 3)
			d.Create("a")
			if off {
				d.Cut()
			}
			d.Restart(disk.Fate{Keeps: c.keeps})
			stands(t, "Restart", d, durable("a", c.want...))
			counts(t, "Restart", d, 0, false)
			for range 4 {
				want(t, "no plan is left", d.Sync("a"), api.OK)
			}
		}
	}
	d := from(t, 4096, disk.File{Name: "a", Bytes: make([]byte, 5000), Synced: 4500, Named: true})
	d.Restart(disk.Fate{Keeps: []disk.Keep{{Name: "a", Bytes: 1, Torn: true}}})
	if p, e := d.Read("a"); e != api.OK || len(p) != 8192 {
		t.Errorf("the noughts end at %d, %d", len(p), e)
	}
}

func TestP6_7_Names(t *testing.T) {
	for _, c := range []struct {
		names int
		want  string
	}{{math.MinInt, "m"}, {-1, "m"}, {0, "m"}, {1, "mz"}, {2, "bmz"}, {3, "bmyz"}, {4, "abmyz"}, {5, "abmyz"}, {math.MaxInt, "abmyz"}} {
		d := made(t, 8)
		d.Create("m")
		d.SyncNames()
		for i, name := range []string{"z", "b", "y", "a"} {
			d.Create(name)
			d.Append(name, []byte{byte(i), 5, 6})
			if i%2 == 0 {
				d.Sync(name) // its bytes, not its name
			}
		}
		d.Restart(disk.Fate{Names: c.names, Keeps: []disk.Keep{{Name: "b", Bytes: 1}, {Name: "nobody", Bytes: 9}, {Name: "a", Bytes: 2}}})
		if got := strings.Join(d.Names(), ""); got != c.want {
			t.Errorf("Names %d leaves %s, want %s", c.names, got, c.want)
		}
		left := map[string][]byte{"z": {0, 5, 6}, "b": {1}, "y": {2, 5, 6}, "a": {3, 5}}
		for _, f := range d.Files() {
			if !sameFile(f, durable(f.Name, left[f.Name]...)) {
				t.Errorf("Names %d leaves %v", c.names, f)
			}
		}
	}
}

// The order in which files came is theirs over restarts and syncs, and a file that comes again comes last.
func TestP6_7_Again(t *testing.T) {
	d := made(t, 8)
	for _, name := range []string{"c", "b", "a"} {
		d.Create(name)
		d.Append(name, []byte(name))
	}
	d.Restart(disk.Fate{Names: 1})
	stands(t, "once", d, durable("c"))
	counts(t, "once", d, 0, false)
	for _, name := range []string{"a", "b"} {
		want(t, "Create again", d.Create(name), api.OK)
	}
	want(t, "Create again", d.Create("c"), api.ErrExists)
	stands(t, "again", d, disk.File{Name: "a"}, disk.File{Name: "b"}, durable("c"))
	d.Append("c", []byte{1, 2})
	d.Restart(disk.Fate{Names: 1, Keeps: []disk.Keep{{Name: "c", Bytes: 1, Torn: true}}})
	stands(t, "twice", d, durable("a"), durable("c", 1, 0, 0, 0, 0, 0, 0, 0))
	d.Append("c", []byte{9})
	stands(t, "behind the noughts", d, durable("a"), disk.File{Name: "c", Bytes: []byte{1, 0, 0, 0, 0, 0, 0, 0, 9}, Synced: 8, Named: true})
	d.Restart(disk.Fate{Names: math.MaxInt})
	stands(t, "thrice", d, durable("a"), durable("c", 1, 0, 0, 0, 0, 0, 0, 0))
	d.Append("c", []byte{7, 7})
	d.Restart(disk.Fate{Keeps: []disk.Keep{{Name: "c", Bytes: 2}}})
	stands(t, "nothing of what was lost comes back", d, durable("a"), durable("c", 1, 0, 0, 0, 0, 0, 0, 0, 7, 7))
}

func TestP6_8_NoDisk(t *testing.T) {
	for what, d := range map[string]*disk.Disk{"nil": nil, "not made by New": new(disk.Disk)} {
		for range 2 {
			d.Plan([]disk.Fault{{At: 1}}, 1)
			d.Cut()
			d.Restart(disk.Fate{Names: 1, Keeps: []disk.Keep{{Name: "a", Bytes: 1, Torn: true}}})
			for _, got := range []api.Errno{d.Create("a"), d.Create("A"), d.Append("a", []byte{1}), d.Append("A", nil), d.Sync("a"), d.Sync(""), d.SyncNames()} {
				want(t, what, got, api.ErrNone)
			}
			if p, e := d.Read("a"); len(p) != 0 || e != api.ErrNone {
				t.Errorf("%s: Read = %x, %d", what, p, e)
			}
			if len(d.Names()) != 0 || len(d.Files()) != 0 || d.Ops() != 0 || d.Off() {
				t.Errorf("%s: Names %v, Files %v, Ops %d, Off %v", what, d.Names(), d.Files(), d.Ops(), d.Off())
			}
		}
	}
}

// Of a copy of a disk nothing is promised but that no call panics.
func TestP1_Copies(t *testing.T) {
	d := made(t, 8)
	d.Create("a")
	d.Append("a", []byte{1, 2, 3})
	c := *d
	c.Append("a", []byte{4})
	d.Restart(disk.Fate{})
	c.Sync("a")
	c.Create("a")
	c.Create("b")
	d.SyncNames()
	c.Restart(disk.Fate{Names: 9, Keeps: []disk.Keep{{Name: "a", Bytes: 1, Torn: true}}})
	d.Files()
	c.Files()
	c.Names()
	c.Plan(nil, 1)
	c.SyncNames()
}

// model is the document's words again: a list of files in the order in which they came, and the plan as it was handed in.
type model struct {
	sector int
	files  []disk.File
	faults []disk.Fault
	crash  int
	ops    int
	off    bool
}

func (m *model) at(name string) *disk.File {
	for i := range m.files {
		if m.files[i].Name == name {
			return &m.files[i]
		}
	}
	return nil
}

func modelName(name string) bool {
	return len(name) >= 1 && len(name) <= 40 && strings.Trim(name, "abcdefghijklmnopqrstuvwxyz0123456789-") == ""
}

// op is one operation: its kind (c, a, s, n), its name and its bytes.
func (m *model) op(kind byte, name string, p []byte) api.Errno {
	if m.off {
		return api.ErrCrash
	}
	m.ops++
	own := api.OK
	switch {
	case kind == 'c' && !modelName(name):
		own = api.ErrForm
	case kind == 'c' && m.at(name) != nil:
		own = api.ErrExists
	case (kind == 'a' || kind == 's') && m.at(name) == nil:
		own = api.ErrNone
	}
	if m.ops == m.crash {
		m.off = true
		if own == api.OK && (kind == 'c' || kind == 'a') {
			m.carry(kind, name, p)
		}
		return api.ErrCrash
	}
	if own != api.OK {
		return own
	}
	for _, f := range m.faults {
		if f.At != m.ops {
			continue
		}
		if kind == 'a' {
			keep := f.Keep
			if keep < 0 {
				keep = 0
			}
			if keep > len(p) {
				keep = len(p)
			}
			m.carry(kind, name, p[:keep])
		}
		return api.ErrIO
	}
	m.carry(kind, name, p)
	return api.OK
}

func (m *model) carry(kind byte, name string, p []byte) {
	switch kind {
	case 'c':
		m.files = append(m.files, disk.File{Name: name})
	case 'a':
		f := m.at(name)
		f.Bytes = slices.Concat(f.Bytes, p)
	case 's':
		f := m.at(name)
		f.Synced = len(f.Bytes)
	case 'n':
		for i := range m.files {
			m.files[i].Named = true
		}
	}
}

func (m *model) restart(fate disk.Fate) {
	var left []disk.File
	unnamed := 0
	for _, f := range m.files {
		if !f.Named {
			unnamed++
			if unnamed > fate.Names {
				continue
			}
		}
		keep, torn := 0, false
		for _, k := range fate.Keeps {
			if k.Name == f.Name {
				keep, torn = k.Bytes, k.Torn
				break
			}
		}
		p := slices.Clone(f.Bytes[:f.Synced])
		lost := false
		for i, b := range f.Bytes[f.Synced:] {
			if i < keep {
				p = append(p, b)
			} else {
				lost = true
			}
		}
		for lost && torn && len(p)%m.sector != 0 {
			p = append(p, 0)
		}
		left = append(left, disk.File{Name: f.Name, Bytes: p, Synced: len(p), Named: true})
	}
	*m = model{sector: m.sector, files: left}
}

func (m *model) sorted() []disk.File {
	files := slices.Clone(m.files)
	slices.SortFunc(files, func(a, b disk.File) int { return strings.Compare(a.Name, b.Name) })
	return files
}

func pick[T any](r *rand.Rand, of ...T) T { return of[r.Intn(len(of))] }

func anyName(r *rand.Rand) string { return pick(r, "a", "b", "c", "d", "a-1", "0", "zz", "A", "") }

func anyBytes(r *rand.Rand) []byte {
	p := make([]byte, r.Intn(7))
	r.Read(p)
	return p
}

func anyFate(r *rand.Rand) disk.Fate {
	f := disk.Fate{Names: r.Intn(6) - 1}
	for range r.Intn(5) {
		f.Keeps = append(f.Keeps, disk.Keep{Name: anyName(r), Bytes: r.Intn(8) - 1, Torn: r.Intn(2) == 0})
	}
	return f
}

func anyFaults(r *rand.Rand) []disk.Fault {
	var faults []disk.Fault
	for range r.Intn(4) {
		faults = append(faults, disk.Fault{At: r.Intn(12) - 1, Keep: r.Intn(8) - 1})
	}
	return faults
}

// turn does one call at the disk and at the model, and tells whether they answered alike.
func turn(r *rand.Rand, d *disk.Disk, m *model) bool {
	name, p := anyName(r), anyBytes(r)
	switch r.Intn(20) {
	case 0, 1, 2, 3, 4:
		return d.Create(name) == m.op('c', name, nil)
	case 5, 6, 7, 8, 9, 10:
		return d.Append(name, p) == m.op('a', name, p)
	case 11, 12, 13:
		return d.Sync(name) == m.op('s', name, nil)
	case 14, 15:
		return d.SyncNames() == m.op('n', "", nil)
	case 16:
		m.ops, m.faults, m.crash = 0, anyFaults(r), r.Intn(20)-1
		d.Plan(m.faults, m.crash)
	case 17:
		m.off = m.off || r.Intn(2) == 0
		if m.off {
			d.Cut()
		}
	case 18, 19:
		fate := anyFate(r)
		d.Restart(fate)
		m.restart(fate)
	}
	return true
}

// alike tells whether all that can be seen of the disk is as the model has it.
func alike(d *disk.Disk, m *model) bool {
	if d.Ops() != m.ops || d.Off() != m.off || !sameFiles(d.Files(), m.sorted()) {
		return false
	}
	var names []string
	for _, f := range m.sorted() {
		names = append(names, f.Name)
	}
	if m.off {
		names = nil
	}
	if !slices.Equal(d.Names(), names) {
		return false
	}
	for _, name := range []string{"a", "zz", "A"} {
		p, e := d.Read(name)
		f, g := m.at(name), api.OK
		switch {
		case m.off:
			g = api.ErrCrash
		case f == nil:
			g = api.ErrNone
		}
		if e != g || e == api.OK && !bytes.Equal(p, f.Bytes) || e != api.OK && len(p) > 0 {
			return false
		}
	}
	return true
}

func play(seed int64, turns int) (int, bool) {
	r := rand.New(rand.NewSource(seed))
	sector := pick(r, 1, 2, 3, 4, 8, 4096)
	d, _ := disk.New(sector)
	m := &model{sector: sector}
	for i := range turns {
		if r.Intn(40) == 0 { // what Files tells makes the same disk again, but for the order of its names
			m.files = m.sorted()
			m.ops, m.faults, m.crash, m.off = 0, nil, 0, false
			d, _ = disk.From(sector, d.Files())
		}
		if !turn(r, d, m) || !alike(d, m) {
			return i, false
		}
	}
	return turns, true
}

func TestP6_AsTheWordsSay(t *testing.T) {
	for seed := range int64(400) {
		if i, ok := play(seed, 150); !ok {
			t.Fatalf("seed %d: the disk and the words part at the call %d", seed, i)
		}
	}
}

func TestP2_ManyAtATime(t *testing.T) {
	var all sync.WaitGroup
	for seed := range int64(16) {
		all.Go(func() {
			if i, ok := play(seed%4, 300); !ok {
				t.Errorf("seed %d: call %d", seed, i)
			}
		})
	}
	all.Wait()
}

// Two disks have nothing in common, even where they were made of one list.
func TestP2_TwoDisks(t *testing.T) {
	files := []disk.File{{Name: "a", Bytes: []byte{1, 2}, Synced: 1}}
	c, d := from(t, 8, files...), from(t, 8, files...)
	c.Plan([]disk.Fault{{At: 1}}, 3)
	c.Append("a", []byte{3})
	c.Append("a", []byte{3})
	c.Create("b")
	counts(t, "the other one", d, 0, false)
	stands(t, "the other one", d, files...)
	want(t, "the other one", d.Sync("a"), api.OK)
}

// roomy answers p with spare room behind it.
func roomy(p []byte) []byte { return append(slices.Clone(p), "spare room"...)[:len(p)] }

// scrawl writes over p and its spare room.
func scrawl(p []byte) {
	for i := range p[:cap(p)] {
		p[:cap(p)][i] ^= 0xa5
	}
}

// whole answers a copy of p and of its spare room.
func whole(p []byte) []byte { return slices.Clone(p[:cap(p)]) }

func TestMemory_HandedIn(t *testing.T) {
	p := roomy([]byte{1, 2, 3})
	was := whole(p)
	room := []disk.File{{Name: "a", Bytes: p, Synced: 1}, {Name: "b", Bytes: p}, {Name: "spare"}}
	d := from(t, 8, room[:2]...)
	d.Append("a", p)
	d.Append("b", []byte{9})
	if !bytes.Equal(whole(p), was) || room[2].Name != "spare" {
		t.Fatal("what was handed in has changed")
	}
	files := []disk.File{{Name: "a", Bytes: []byte{1, 2, 3, 1, 2, 3}, Synced: 1}, {Name: "b", Bytes: []byte{1, 2, 3, 9}}}
	scrawl(p)
	room[0] = disk.File{Name: "z", Synced: 7}
	stands(t, "written over what was handed in", d, files...)

	faults := []disk.Fault{{At: 2, Keep: 1}, {At: 9}}
	d.Plan(faults[:1], 0)
	faults[0] = disk.Fault{At: 1}
	want(t, "Sync", d.Sync("a"), api.OK)
	want(t, "the fault as it was handed in", d.Append("a", []byte{7, 8}), api.ErrIO)
	if faults[1] != (disk.Fault{At: 9}) {
		t.Error("the spare room of the faults has changed")
	}
	keeps := []disk.Keep{{Name: "a", Bytes: 1}, {Name: "b", Bytes: 4}}
	d.Restart(disk.Fate{Names: 2, Keeps: keeps[:1]})
	if keeps[0] != (disk.Keep{Name: "a", Bytes: 1}) || keeps[1] != (disk.Keep{Name: "b", Bytes: 4}) {
		t.Error("the keeps have changed")
	}
	stands(t, "Restart", d, durable("a", 1, 2, 3, 1, 2, 3, 7), durable("b"))
}

func TestMemory_Answered(t *testing.T) {
	d := from(t, 8, disk.File{Name: "a", Bytes: []byte{1, 2, 3}, Synced: 1}, disk.File{Name: "b", Bytes: []byte{4}})
	d.Append("a", []byte{5})
	files := []disk.File{{Name: "a", Bytes: []byte{1, 2, 3, 5}, Synced: 1}, {Name: "b", Bytes: []byte{4}}}
	again := func(what string) {
		t.Helper()
		stands(t, what, d, files...)
		if p, e := d.Read("a"); e != api.OK || !bytes.Equal(p, files[0].Bytes) {
			t.Errorf("%s: Read = %x, %d", what, p, e)
		}
		if names := d.Names(); !slices.Equal(names, []string{"a", "b"}) {
			t.Errorf("%s: Names = %v", what, names)
		}
	}
	p, _ := d.Read("a")
	q, _ := d.Read("a")
	scrawl(p)
	if !bytes.Equal(q, files[0].Bytes) {
		t.Error("two answers of Read share memory")
	}
	again("written over what Read answered")
	names := d.Names()
	for i := range names[:cap(names)] {
		names[:cap(names)][i] = "x"
	}
	again("written over what Names answered")
	got := d.Files()
	scrawl(got[0].Bytes)
	if !sameFile(got[1], files[1]) {
		t.Error("two files of one answer share memory")
	}
	got[1] = disk.File{Name: "x"}
	again("written over what Files answered")

	kept, _ := d.Read("a")
	all := d.Files()
	d.Append("a", []byte{6})
	d.Restart(disk.Fate{Names: 2, Keeps: []disk.Keep{{Name: "a", Bytes: 1, Torn: true}}})
	d.Append("a", []byte{9, 9, 9})
	if !bytes.Equal(kept, files[0].Bytes) || !sameFiles(all, files) {
		t.Error("an earlier answer changes with the disk")
	}
}

// The bytes of a file grow by those that come, not by those that are there: many small appends end soon.
func TestP1_ManyAppends(t *testing.T) {
	d := made(t, 512)
	d.Create("a")
	for range 200000 {
		if d.Append("a", []byte{1, 2, 3}) != api.OK || d.Sync("a") != api.OK {
			t.Fatal("Append, Sync")
		}
	}
	if p, e := d.Read("a"); e != api.OK || len(p) != 600000 {
		t.Errorf("Read: %d bytes, %d", len(p), e)
	}
	counts(t, "many appends", d, 400001, false)
}
