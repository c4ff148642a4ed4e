package tests

import (
	"fmt"
	"math"
	"reflect"
	"slices"
	"testing"

	"loop.example/drawbar/impl"
)

// demand is a row of the document's table of calls: the kinds of objects, and what is required of the right and of the labels.
type demand struct {
	kind               int
	name               string
	objects            []int
	readable, writable bool
	observe, modify    bool
}

var demands = []demand{
	{kind: 1, name: "CallRead", objects: []int{1}, readable: true, observe: true},
	{kind: 2, name: "CallWrite", objects: []int{1}, writable: true, modify: true},
	{kind: 3, name: "CallCopy"},
	{kind: 4, name: "CallFetch", objects: []int{2}, readable: true, observe: true},
	{kind: 5, name: "CallStore", objects: []int{2}, writable: true, modify: true},
	{kind: 6, name: "CallSend", objects: []int{4}, writable: true, modify: true},
	{kind: 7, name: "CallTake", objects: []int{4}, readable: true, writable: true, observe: true, modify: true},
	{kind: 8, name: "CallRenew", objects: []int{1, 2, 4}, writable: true, modify: true},
	{kind: 9, name: "CallGate", objects: []int{5}, writable: true, modify: true},
}

// flows is the relation of chapter 1, for valid labels.
func flows(from, to impl.Label) bool {
	return subset(from.Secret, to.Secret) && subset(to.Vouch, from.Vouch)
}

func isProcess(table []impl.Thing, number int) bool {
	return inside(number, [2]int{1, len(table)}) && table[number-1].Kind == 3
}

// wantCheck is what the document says of a valid call in a table.
func wantCheck(table []impl.Thing, c impl.Call) int {
	if !isProcess(table, c.Run) {
		return -1
	}
	if c.Kind == 3 {
		return 0
	}
	d := demands[c.Kind-1]
	process := table[c.Run-1]
	r := process.Slots[c.A]
	if r == noRight {
		return -1
	}
	object := table[r.Thing-1]
	if !slices.Contains(d.objects, object.Kind) || d.readable && !r.Read || d.writable && !r.Write {
		return -1
	}
	sees, touches := flows(object.Label, process.Label), flows(process.Label, object.Label)
	if d.observe && !sees || d.modify && !touches {
		return -2
	}
	if sees && r.Vers != object.Vers {
		return -3
	}
	return 0
}

// The numbers of a scene.
const (
	sceneObject  = 2
	sceneProcess = 3
	sceneSlot    = 2
)

// scene is a process and an object to which it has one right.
type scene struct {
	kind    int // of the object
	process impl.Label
	object  impl.Label
	letters string // of the right; none if it is null
	gone    bool   // the right is to an earlier version
}

func (s scene) table() []impl.Thing {
	object := shapes[s.kind-1].plain()
	object.Label = s.object
	object.Vers = min(3, shapes[s.kind-1].vers[1])
	process := run(5, right(1, 4, "rw-"), right(3, 0, "rw-"), noRight, right(sceneObject, object.Vers, "---"))
	process.Label = s.process
	if s.letters != "" {
		process.Slots[sceneSlot] = right(sceneObject, object.Vers, s.letters)
	}
	if s.gone {
		process.Slots[sceneSlot].Vers = object.Vers - 1
	}
	target := page(1, 4)
	target.Label = s.process
	return []impl.Thing{target, object, process}
}

func (s scene) sees() bool {
	return flows(s.object, s.process)
}

func (s scene) touches() bool {
	return flows(s.process, s.object)
}

func sceneCall(kind int) impl.Call {
	return impl.Call{Kind: kind, Run: sceneProcess, A: sceneSlot, B: 1, N: 7}
}

func (s scene) check(kind int) int {
	return impl.CheckCall(s.table(), sceneCall(kind))
}

// eachScene goes through all kinds of objects, pairs of labels, and rights that are null, live, and to an earlier version.
func eachScene(check func(s scene)) {
	for _, shape := range shapes {
		eachPair(func(process, object impl.Label) {
			check(scene{kind: shape.kind, process: process, object: object})
			for _, letters := range rightLetters {
				check(scene{shape.kind, process, object, letters, false})
				// A process and a gate have no earlier version.
				if shape.vers[1] > 0 {
					check(scene{shape.kind, process, object, letters, true})
				}
			}
		})
	}
}

// eachCheck goes through all scenes with each call.
func eachCheck(check func(s scene, d demand, got int)) {
	eachScene(func(s scene) {
		table := s.table()
		for _, d := range demands {
			check(s, d, impl.CheckCall(table, sceneCall(d.kind)))
		}
	})
}

// Labels of which a process with the first observes or modifies an object with the second, or both, or neither.
var (
	seesOnly    = [2]impl.Label{label(1, 0), label(0, 0)}
	touchesOnly = [2]impl.Label{label(0, 2), label(0, 0)}
	seesBoth    = [2]impl.Label{label(2, 1), label(2, 1)}
	seesNeither = [2]impl.Label{label(1, 1), label(2, 1)}
)

// invalidCalls has calls that differ from a valid one in one field, which is out of its range, by what is wrong.
func invalidCalls(valid impl.Call) map[string]impl.Call {
	out := map[string]impl.Call{}
	add := func(name string, field func(c *impl.Call) *int, bounds [2]int) {
		for _, n := range append(manyNumbers(), bounds[0]-1, bounds[1]+1, math.MinInt, math.MaxInt) {
			if !inside(n, bounds) {
				c := valid
				*field(&c) = n
				out[fmt.Sprint(name, " is ", n)] = c
			}
		}
	}
	add("Kind", func(c *impl.Call) *int { return &c.Kind }, [2]int{1, 9})
	add("Run", func(c *impl.Call) *int { return &c.Run }, [2]int{1, 8})
	add("A", func(c *impl.Call) *int { return &c.A }, [2]int{0, 3})
	add("B", func(c *impl.Call) *int { return &c.B }, [2]int{0, 3})
	add("N", func(c *impl.Call) *int { return &c.N }, [2]int{0, 99})
	return out
}

func TestP28ValidCalls(t *testing.T) {
	for kind := 1; kind <= 9; kind++ {
		for run := 1; run <= 8; run++ {
			for slots := range 16 {
				for n := range 100 {
					c := impl.Call{Kind: kind, Run: run, A: slots / 4, B: slots % 4, N: n}
					if !impl.CallOk(c) {
						t.Errorf("%+v is not valid", c)
					}
				}
			}
		}
	}
}

func TestP28InvalidCalls(t *testing.T) {
	for _, d := range demands {
		for _, valid := range []impl.Call{{Kind: d.kind, Run: 1}, {Kind: d.kind, Run: 8, A: 3, B: 3, N: 99}, {Kind: d.kind, Run: 4, A: 1, B: 2, N: 50}} {
			if !impl.CallOk(valid) {
				t.Errorf("%+v is not valid", valid)
			}
			for what, c := range invalidCalls(valid) {
				if impl.CallOk(c) {
					t.Errorf("%+v is valid, but %s", c, what)
				}
			}
		}
	}
}

// TestP28FieldsTogether holds that a field out of range is not made up for by another one.
func TestP28FieldsTogether(t *testing.T) {
	numbers := []int{math.MinInt, -1, 0, 1, 3, 4, 8, 9, 10, 99, 100, math.MaxInt}
	for _, kind := range numbers {
		for _, run := range numbers {
			for _, a := range numbers {
				for _, b := range numbers {
					for _, n := range numbers {
						c := impl.Call{Kind: kind, Run: run, A: a, B: b, N: n}
						want := inside(kind, [2]int{1, 9}) && inside(run, [2]int{1, 8}) && inside(a, [2]int{0, 3}) && inside(b, [2]int{0, 3}) && inside(n, [2]int{0, 99})
						if impl.CallOk(c) != want {
							t.Errorf("CallOk(%+v) is not %v", c, want)
						}
					}
				}
			}
		}
	}
}

func TestP28Examples(t *testing.T) {
	cases := []struct {
		what string
		call impl.Call
		want bool
	}{
		{"all fields zero", impl.Call{}, false},
		{"least", impl.Call{Kind: 1, Run: 1}, true},
		{"greatest", impl.Call{Kind: 9, Run: 8, A: 3, B: 3, N: 99}, true},
		{"kind 0", impl.Call{Kind: 0, Run: 1}, false},
		{"kind 10", impl.Call{Kind: 10, Run: 1}, false},
		{"kind -1", impl.Call{Kind: -1, Run: 1}, false},
		{"process 0", impl.Call{Kind: 1, Run: 0}, false},
		{"process 9", impl.Call{Kind: 1, Run: 9}, false},
		{"slot A -1", impl.Call{Kind: 1, Run: 1, A: -1}, false},
		{"slot A 4", impl.Call{Kind: 1, Run: 1, A: 4}, false},
		{"slot B -1", impl.Call{Kind: 1, Run: 1, B: -1}, false},
		{"slot B 4", impl.Call{Kind: 1, Run: 1, B: 4}, false},
		{"number -1", impl.Call{Kind: 1, Run: 1, N: -1}, false},
		{"number 100", impl.Call{Kind: 1, Run: 1, N: 100}, false},
	}
	for _, c := range cases {
		if impl.CallOk(c.call) != c.want {
			t.Errorf("%s: CallOk(%+v) is not %v", c.what, c.call, c.want)
		}
	}
}

func TestP28Constants(t *testing.T) {
	calls := []int{impl.CallRead, impl.CallWrite, impl.CallCopy, impl.CallFetch, impl.CallStore, impl.CallSend, impl.CallTake, impl.CallRenew, impl.CallGate}
	for i, kind := range calls {
		if kind != demands[i].kind {
			t.Errorf("%s is %d", demands[i].name, kind)
		}
	}
	answers := []int{impl.AnsNone, impl.AnsFlow, impl.AnsGone, impl.AnsFull}
	if !slices.Equal(answers, []int{-1, -2, -3, -4}) {
		t.Errorf("the answers are %v", answers)
	}
}

// TestP28InvalidCallIsNone holds that an invalid call is told of before all else, also where the field that is wrong is not used.
func TestP28InvalidCallIsNone(t *testing.T) {
	for _, labels := range [][2]impl.Label{seesOnly, touchesOnly, seesBoth, seesNeither} {
		for _, shape := range shapes {
			for _, gone := range []bool{false, shape.vers[1] > 0} {
				table := scene{shape.kind, labels[0], labels[1], "rw-", gone}.table()
				for _, d := range demands {
					for what, c := range invalidCalls(sceneCall(d.kind)) {
						if got := impl.CheckCall(table, c); got != -1 {
							t.Errorf("%s of a %s: %s, and CheckCall is %d", d.name, shape.name, what, got)
						}
					}
				}
			}
		}
	}
}

// TestP28NoProcessIsNone holds that a valid call by what is no process is refused, also to copy.
func TestP28NoProcessIsNone(t *testing.T) {
	for _, table := range someTables() {
		for number := 1; number <= 8; number++ {
			if isProcess(table, number) {
				continue
			}
			for _, d := range demands {
				for a := range 4 {
					c := impl.Call{Kind: d.kind, Run: number, A: a}
					if got := impl.CheckCall(table, c); got != -1 {
						t.Errorf("%s by object %d of %v is %d", d.name, number, table, got)
					}
				}
			}
		}
	}
}

// eachNumberPair goes through numbers of objects, in range and out of it.
func eachNumberPair(check func(run, thing int)) {
	numbers := append(slices.Clone(numbersOutside), 0, 1, 2, 3, 4, 5, 6, 7, 8)
	for _, run := range numbers {
		for _, thing := range numbers {
			check(run, thing)
		}
	}
}

func TestP29SeesByLabels(t *testing.T) {
	for _, shape := range shapes {
		eachPair(func(process, object impl.Label) {
			table := scene{kind: shape.kind, process: process, object: object}.table()
			if impl.CheckSees(table, sceneProcess, sceneObject) != flows(object, process) {
				t.Errorf("a process with %v and a %s with %v: CheckSees is not %v", process, shape.name, object, flows(object, process))
			}
		})
	}
}

func TestP29SeesByNumbers(t *testing.T) {
	seen, hidden := 0, 0
	for _, table := range someTables() {
		eachNumberPair(func(run, thing int) {
			want := isProcess(table, run) && inside(thing, [2]int{1, len(table)})
			if want && !flows(table[thing-1].Label, table[run-1].Label) {
				want = false
				hidden++
			}
			if want {
				seen++
			}
			if impl.CheckSees(table, run, thing) != want {
				t.Errorf("CheckSees(%v, %d, %d) is not %v", table, run, thing, want)
			}
		})
	}
	if seen < 100 || hidden < 100 {
		t.Errorf("only %d objects are seen and %d are hidden", seen, hidden)
	}
}

func TestP29ProcessSeesItself(t *testing.T) {
	for _, l := range allLabels() {
		process := run(0)
		process.Label = l
		if !impl.CheckSees([]impl.Thing{process}, 1, 1) {
			t.Errorf("a process with %v does not see itself", l)
		}
	}
	for _, table := range someTables() {
		for i, thing := range table {
			if impl.CheckSees(table, i+1, i+1) != (thing.Kind == 3) {
				t.Errorf("whether object %d of %v observes itself is wrong", i+1, table)
			}
		}
	}
}

func TestP29Examples(t *testing.T) {
	cases := []struct {
		what          string
		labels        [2]impl.Label
		sees, touches bool
	}{
		{"equal", seesBoth, true, true},
		{"observes only, by a secret", seesOnly, true, false},
		{"observes only, by a voucher", [2]impl.Label{label(0, 0), label(0, 1)}, true, false},
		{"modifies only, by a voucher", touchesOnly, false, true},
		{"modifies only, by a secret", [2]impl.Label{label(0, 0), label(2, 0)}, false, true},
		{"neither, by secrets", seesNeither, false, false},
		{"neither, by vouchers", [2]impl.Label{label(0, 1), label(0, 2)}, false, false},
		{"neither, by a secret and a voucher", [2]impl.Label{label(1, 1), label(0, 0)}, false, false},
		{"highest sees lowest", [2]impl.Label{label(3, 0), label(0, 3)}, true, false},
		{"lowest modifies highest", [2]impl.Label{label(0, 3), label(3, 0)}, false, true},
	}
	for _, c := range cases {
		for _, shape := range shapes {
			table := scene{kind: shape.kind, process: c.labels[0], object: c.labels[1]}.table()
			if impl.CheckSees(table, sceneProcess, sceneObject) != c.sees {
				t.Errorf("%s: CheckSees of a %s is not %v", c.what, shape.name, c.sees)
			}
			if impl.CheckTouches(table, sceneProcess, sceneObject) != c.touches {
				t.Errorf("%s: CheckTouches of a %s is not %v", c.what, shape.name, c.touches)
			}
		}
	}
}

func TestP29NothingIsSeenInNoTable(t *testing.T) {
	for what, table := range badTables() {
		eachNumberPair(func(run, thing int) {
			if impl.CheckSees(table, run, thing) {
				t.Errorf("%s: CheckSees(%v, %d, %d)", what, table, run, thing)
			}
		})
	}
}

func TestP30TouchesByLabels(t *testing.T) {
	for _, shape := range shapes {
		eachPair(func(process, object impl.Label) {
			table := scene{kind: shape.kind, process: process, object: object}.table()
			touches := impl.CheckTouches(table, sceneProcess, sceneObject)
			if touches != flows(process, object) {
				t.Errorf("a process with %v and a %s with %v: CheckTouches is %v", process, shape.name, object, touches)
			}
			both := touches && impl.CheckSees(table, sceneProcess, sceneObject)
			if both != (process == object) {
				t.Errorf("a process with %v and a %s with %v: both is %v", process, shape.name, object, both)
			}
		})
	}
}

func TestP30TouchesByNumbers(t *testing.T) {
	touched, spared := 0, 0
	for _, table := range someTables() {
		eachNumberPair(func(run, thing int) {
			want := isProcess(table, run) && inside(thing, [2]int{1, len(table)})
			if want && !flows(table[run-1].Label, table[thing-1].Label) {
				want = false
				spared++
			}
			if want {
				touched++
			}
			if impl.CheckTouches(table, run, thing) != want {
				t.Errorf("CheckTouches(%v, %d, %d) is not %v", table, run, thing, want)
			}
		})
	}
	if touched < 100 || spared < 100 {
		t.Errorf("only %d objects can be modified and %d cannot", touched, spared)
	}
}

func TestP30ProcessTouchesItself(t *testing.T) {
	for _, table := range someTables() {
		for i, thing := range table {
			if impl.CheckTouches(table, i+1, i+1) != (thing.Kind == 3) {
				t.Errorf("whether object %d of %v modifies itself is wrong", i+1, table)
			}
		}
	}
}

func TestP30NothingIsTouchedInNoTable(t *testing.T) {
	for what, table := range badTables() {
		eachNumberPair(func(run, thing int) {
			if impl.CheckTouches(table, run, thing) {
				t.Errorf("%s: CheckTouches(%v, %d, %d)", what, table, run, thing)
			}
		})
	}
}

func TestP31NullRight(t *testing.T) {
	for _, d := range demands {
		want, kind := 0, impl.KindRun
		if d.name != "CallCopy" {
			want, kind = -1, d.objects[0]
		}
		for slot := range 4 {
			for _, l := range allLabels() {
				// The other slots have what would suffice.
				object := shapes[kind-1].plain()
				object.Label = l
				process := run(0, slices.Repeat([]impl.Right{right(2, 0, "rw-")}, 4)...)
				process.Label = l
				process.Slots[slot] = noRight
				table := []impl.Thing{page(0, 0), object, process}
				for b := range 4 {
					if got := impl.CheckCall(table, impl.Call{Kind: d.kind, Run: 3, A: slot, B: b}); got != want {
						t.Errorf("%s with the null capability in slot %d is %d", d.name, slot, got)
					}
					other := (slot + 1) % 4
					if got := impl.CheckCall(table, impl.Call{Kind: d.kind, Run: 3, A: other, B: slot}); got != 0 {
						t.Errorf("%s with slot %d, and the null capability in slot B, is %d", d.name, other, got)
					}
				}
			}
		}
	}
}

func TestP31NullRightInScenes(t *testing.T) {
	eachCheck(func(s scene, d demand, got int) {
		if s.letters == "" && got != 0 && d.name == "CallCopy" {
			t.Errorf("CallCopy in %+v is %d", s, got)
		}
		if s.letters == "" && got != -1 && d.name != "CallCopy" {
			t.Errorf("%s in %+v is %d", d.name, s, got)
		}
	})
}

// TestP31Copy holds that copying is always 0, whatever is in the slot.
func TestP31Copy(t *testing.T) {
	eachScene(func(s scene) {
		if got := s.check(impl.CallCopy); got != 0 {
			t.Errorf("CallCopy in %+v is %d", s, got)
		}
	})
	for _, table := range someTables() {
		for i, thing := range table {
			for a := range thing.Slots {
				for b := range 4 {
					want := 0
					if thing.Kind != 3 {
						want = -1
					}
					if got := impl.CheckCall(table, impl.Call{Kind: 3, Run: i + 1, A: a, B: b, N: 99}); got != want {
						t.Errorf("CallCopy by object %d of %v is %d", i+1, table, got)
					}
				}
			}
		}
	}
}

func TestP31NoTableIsNone(t *testing.T) {
	for what, table := range badTables() {
		for _, d := range demands {
			for number := range 10 {
				for a := -1; a <= 4; a++ {
					if got := impl.CheckCall(table, impl.Call{Kind: d.kind, Run: number, A: a}); got != -1 {
						t.Errorf("%s: %s by object %d with slot %d is %d", what, d.name, number, a, got)
					}
				}
			}
		}
	}
}

// spoiled has the table with something added or changed, far from the process and the object of a scene, that makes it none.
func spoiled(table []impl.Thing) map[string][]impl.Thing {
	full := copyTable(table)
	for len(full) < 9 {
		full = append(full, page(0, 0))
	}
	return map[string][]impl.Thing{
		"too many objects":         full,
		"object without a kind":    append(copyTable(table), impl.Thing{}),
		"number out of range":      with(table, 0, func(x *impl.Thing) { x.Num = 100 }),
		"invalid label":            with(table, 0, func(x *impl.Thing) { x.Label.Secret = 4 }),
		"right to no object":       append(copyTable(table), node(0, right(5, 0, "r--"))),
		"right to a later version": append(copyTable(table), node(0, right(1, 5, "r--"))),
		"gate to no page":          append(copyTable(table), gate(0, 3)),
		"other invalid slot":       with(table, sceneProcess-1, func(x *impl.Thing) { x.Slots[0] = right(1, 0, "rwk") }),
		"process with a version":   with(table, sceneProcess-1, func(x *impl.Thing) { x.Vers = 1 }),
		"result out of range":      with(table, sceneProcess-1, func(x *impl.Thing) { x.Num = -5 }),
	}
}

// TestP31SpoiledTableIsNone holds that what is not a table is told of before all else, also where the call itself would find nothing wrong.
func TestP31SpoiledTableIsNone(t *testing.T) {
	for _, labels := range [][2]impl.Label{seesOnly, touchesOnly, seesBoth, seesNeither} {
		for _, shape := range shapes {
			for _, gone := range []bool{false, shape.vers[1] > 0} {
				s := scene{shape.kind, labels[0], labels[1], "rw-", gone}
				for what, table := range spoiled(s.table()) {
					for _, d := range demands {
						if got := impl.CheckCall(table, sceneCall(d.kind)); got != -1 {
							t.Errorf("%s: %s in %+v is %d", what, d.name, s, got)
						}
					}
					if impl.CheckSees(table, sceneProcess, sceneObject) || impl.CheckTouches(table, sceneProcess, sceneObject) {
						t.Errorf("%s: the object of %+v is seen or touched", what, s)
					}
				}
			}
		}
	}
}

func TestP32WhatZeroRequires(t *testing.T) {
	passed := map[string]int{}
	eachCheck(func(s scene, d demand, got int) {
		if got != 0 || d.name == "CallCopy" {
			return
		}
		passed[d.name]++
		if s.letters == "" {
			t.Fatalf("%s in %+v is 0", d.name, s)
		}
		r := right(1, 0, s.letters)
		reads := slices.Contains([]string{"CallRead", "CallFetch", "CallTake"}, d.name)
		writes := !slices.Contains([]string{"CallRead", "CallFetch"}, d.name)
		if reads && !(r.Read && s.sees()) {
			t.Errorf("%s in %+v is 0, but the process may not read", d.name, s)
		}
		if writes && !(r.Write && s.touches()) {
			t.Errorf("%s in %+v is 0, but the process may not write", d.name, s)
		}
	})
	for _, d := range demands {
		if d.name != "CallCopy" && passed[d.name] < 16 {
			t.Errorf("%s is 0 only %d times", d.name, passed[d.name])
		}
	}
}

// TestP32EachAnswer holds the answers of all calls in all scenes against the document's list.
func TestP32EachAnswer(t *testing.T) {
	counts := map[int]int{}
	eachCheck(func(s scene, d demand, got int) {
		want := wantCheck(s.table(), sceneCall(d.kind))
		counts[want]++
		if got != want {
			t.Errorf("%s in %+v is %d, want %d", d.name, s, got, want)
		}
	})
	for answer := -3; answer <= 0; answer++ {
		if counts[answer] < 500 {
			t.Errorf("only %d calls are %d", counts[answer], answer)
		}
	}
}

// alike is a copy of the table in which all labels are the same, so that no call is refused by them.
func alike(table []impl.Thing) []impl.Thing {
	out := copyTable(table)
	for i := range out {
		out[i].Label = label(2, 1)
	}
	return out
}

func TestP32EachAnswerInTables(t *testing.T) {
	counts := map[int]int{}
	tables := someTables()
	for _, table := range someTables() {
		tables = append(tables, alike(table))
	}
	for _, table := range tables {
		for number := 1; number <= 8; number++ {
			for a := range 4 {
				for _, d := range demands {
					c := impl.Call{Kind: d.kind, Run: number, A: a, B: 3 - a, N: 33 * a}
					want := wantCheck(table, c)
					counts[want]++
					if got := impl.CheckCall(table, c); got != want {
						t.Errorf("CheckCall(%v, %+v) = %d, want %d", table, c, got, want)
					}
				}
			}
		}
	}
	for answer := -3; answer <= 0; answer++ {
		if counts[answer] < 20 {
			t.Errorf("only %d calls are %d", counts[answer], answer)
		}
	}
}

// TestP32Letters has, for each call on an object of its kind and with equal labels, the letters of the rights that suffice.
func TestP32Letters(t *testing.T) {
	cases := []struct {
		call, kind int
		suffice    []string
	}{
		{impl.CallRead, impl.KindPage, []string{"r--", "rw-", "r-k"}},
		{impl.CallWrite, impl.KindPage, []string{"-w-", "rw-"}},
		{impl.CallFetch, impl.KindNode, []string{"r--", "rw-", "r-k"}},
		{impl.CallStore, impl.KindNode, []string{"-w-", "rw-"}},
		{impl.CallSend, impl.KindPipe, []string{"-w-", "rw-"}},
		{impl.CallTake, impl.KindPipe, []string{"rw-"}},
		{impl.CallRenew, impl.KindPage, []string{"-w-", "rw-"}},
		{impl.CallRenew, impl.KindNode, []string{"-w-", "rw-"}},
		{impl.CallRenew, impl.KindPipe, []string{"-w-", "rw-"}},
		{impl.CallGate, impl.KindGate, []string{"-w-", "rw-"}},
	}
	for _, c := range cases {
		for _, letters := range rightLetters {
			want := -1
			if slices.Contains(c.suffice, letters) {
				want = 0
			}
			if got := (scene{c.kind, seesBoth[0], seesBoth[1], letters, false}).check(c.call); got != want {
				t.Errorf("%s of a %s with %s is %d, want %d", demands[c.call-1].name, shapes[c.kind-1].name, letters, got, want)
			}
		}
	}
}

// TestP32Labels has the answers of each call on an object of its kind by which of observing and modifying is possible.
func TestP32Labels(t *testing.T) {
	cases := []struct {
		call, kind                   int
		both, sees, touches, neither int
	}{
		{impl.CallRead, impl.KindPage, 0, 0, -2, -2},
		{impl.CallWrite, impl.KindPage, 0, -2, 0, -2},
		{impl.CallFetch, impl.KindNode, 0, 0, -2, -2},
		{impl.CallStore, impl.KindNode, 0, -2, 0, -2},
		{impl.CallSend, impl.KindPipe, 0, -2, 0, -2},
		{impl.CallTake, impl.KindPipe, 0, -2, -2, -2},
		{impl.CallRenew, impl.KindPage, 0, -2, 0, -2},
		{impl.CallRenew, impl.KindNode, 0, -2, 0, -2},
		{impl.CallRenew, impl.KindPipe, 0, -2, 0, -2},
		{impl.CallGate, impl.KindGate, 0, -2, 0, -2},
		{impl.CallCopy, impl.KindPage, 0, 0, 0, 0},
		{impl.CallCopy, impl.KindRun, 0, 0, 0, 0},
	}
	for _, c := range cases {
		for _, row := range []struct {
			what   string
			labels [2]impl.Label
			want   int
		}{{"both", seesBoth, c.both}, {"sees", seesOnly, c.sees}, {"touches", touchesOnly, c.touches}, {"neither", seesNeither, c.neither}} {
			if got := (scene{c.kind, row.labels[0], row.labels[1], "rw-", false}).check(c.call); got != row.want {
				t.Errorf("%s of a %s, %s: %d, want %d", demands[c.call-1].name, shapes[c.kind-1].name, row.what, got, row.want)
			}
		}
	}
}

func TestP33MoreRightPasses(t *testing.T) {
	passed := 0
	eachScene(func(outer scene) {
		if outer.letters == "" {
			return
		}
		for _, letters := range append([]string{""}, lettersIn[outer.letters]...) {
			inner := outer
			inner.letters = letters
			if letters == "" {
				inner.gone = false
			}
			a, b := inner.table(), outer.table()
			if !impl.RightIn(a[sceneProcess-1].Slots[sceneSlot], b[sceneProcess-1].Slots[sceneSlot]) {
				t.Fatalf("the right of %+v is not contained in that of %+v", inner, outer)
			}
			for _, d := range demands {
				if impl.CheckCall(a, sceneCall(d.kind)) != 0 {
					continue
				}
				passed++
				if got := impl.CheckCall(b, sceneCall(d.kind)); got != 0 {
					t.Errorf("%s in %+v is 0, but in %+v it is %d", d.name, inner, outer, got)
				}
			}
		}
	})
	if passed < 1000 {
		t.Errorf("only %d calls pass", passed)
	}
}

// TestP33StrongForWeak holds that what passes with a weak right passes with the strong one.
func TestP33StrongForWeak(t *testing.T) {
	for _, c := range [][2]int{{impl.CallRead, impl.KindPage}, {impl.CallFetch, impl.KindNode}} {
		for _, labels := range [][2]impl.Label{seesBoth, seesOnly} {
			for _, letters := range []string{"r-k", "r--", "rw-"} {
				if got := (scene{c[1], labels[0], labels[1], letters, false}).check(c[0]); got != 0 {
					t.Errorf("%s with %s is %d", demands[c[0]-1].name, letters, got)
				}
			}
		}
	}
}

// contents has objects of the kind and label of another one, with different contents, of its version and later ones.
func contents(thing impl.Thing) []impl.Thing {
	var out []impl.Thing
	add := func(change func(x *impl.Thing)) {
		x := copyThing(thing)
		change(&x)
		out = append(out, x)
	}
	shape := shapes[thing.Kind-1]
	for vers := thing.Vers; vers <= shape.vers[1]; vers++ {
		add(func(x *impl.Thing) { x.Vers = vers })
		for _, num := range []int{-4, -3, -1, 1, 99} {
			if inside(num, shape.num) {
				add(func(x *impl.Thing) { x.Vers, x.Num = vers, num })
			}
		}
		for size := 1; size <= shape.queue; size++ {
			add(func(x *impl.Thing) { x.Vers, x.Queue = vers, []int{0, 99, 7}[:size] })
		}
		if shape.rights > 0 {
			add(func(x *impl.Thing) { x.Vers, x.Slots[0], x.Slots[3] = vers, right(1, 4, "rw-"), right(3, 0, "r-k") })
			add(func(x *impl.Thing) { x.Vers, x.Slots[sceneSlot] = vers, right(sceneObject, 0, "rw-") })
		}
	}
	return out
}

func TestP34HiddenObject(t *testing.T) {
	answers := map[int]int{}
	eachScene(func(s scene) {
		if s.sees() {
			return
		}
		table := s.table()
		others := contents(table[sceneObject-1])
		for _, d := range demands {
			first := impl.CheckCall(table, sceneCall(d.kind))
			answers[first]++
			for _, other := range others {
				table[sceneObject-1] = other
				if !impl.TableOk(table) {
					t.Fatalf("%v is not a table", table)
				}
				if got := impl.CheckCall(table, sceneCall(d.kind)); got != first {
					t.Errorf("%s in %+v is %d, but %d with the hidden object %v", d.name, s, first, got, other)
				}
			}
			table = s.table()
		}
	})
	if answers[0] < 100 || answers[-2] < 100 || answers[-1] < 100 || len(answers) != 3 {
		t.Errorf("the answers are %v", answers)
	}
}

// TestP34RenewedUnseen holds that a process that modifies an object without observing it is not told that it was renewed.
func TestP34RenewedUnseen(t *testing.T) {
	cases := [][2]int{{impl.CallWrite, impl.KindPage}, {impl.CallStore, impl.KindNode}, {impl.CallSend, impl.KindPipe}, {impl.CallRenew, impl.KindPage}, {impl.CallRenew, impl.KindNode}, {impl.CallRenew, impl.KindPipe}}
	for _, c := range cases {
		for was := 0; was <= 5; was++ {
			for now := was; now <= 5; now++ {
				table := scene{c[1], touchesOnly[0], touchesOnly[1], "rw-", false}.table()
				table[sceneObject-1].Vers = now
				table[sceneProcess-1].Slots[sceneSlot].Vers = was
				table[sceneProcess-1].Slots[3] = noRight
				if got := impl.CheckCall(table, sceneCall(c[0])); got != 0 {
					t.Errorf("%s of version %d of an unseen %s that is at %d is %d", demands[c[0]-1].name, was, shapes[c[1]-1].name, now, got)
				}
			}
		}
	}
}

func TestP35KindsOfObjects(t *testing.T) {
	// By the number of the call, whether it passes on a page, a node, a process, a pipe and a gate.
	passes := [10][5]bool{
		impl.CallRead:  {true, false, false, false, false},
		impl.CallWrite: {true, false, false, false, false},
		impl.CallCopy:  {true, true, true, true, true},
		impl.CallFetch: {false, true, false, false, false},
		impl.CallStore: {false, true, false, false, false},
		impl.CallSend:  {false, false, false, true, false},
		impl.CallTake:  {false, false, false, true, false},
		impl.CallRenew: {true, true, false, true, false},
		impl.CallGate:  {false, false, false, false, true},
	}
	for _, d := range demands {
		for _, shape := range shapes {
			for _, l := range allLabels() {
				want := -1
				if passes[d.kind][shape.kind-1] {
					want = 0
				}
				if got := (scene{shape.kind, l, l, "rw-", false}).check(d.kind); got != want {
					t.Errorf("%s of a %s is %d, want %d", d.name, shape.name, got, want)
				}
			}
		}
	}
}

func TestP35ZeroInScenes(t *testing.T) {
	eachCheck(func(s scene, d demand, got int) {
		if got == 0 && d.name != "CallCopy" && !slices.Contains(d.objects, s.kind) {
			t.Errorf("%s of a %s in %+v is 0", d.name, shapes[s.kind-1].name, s)
		}
	})
}

// TestP35ProcessItself holds that a process is not the object of any of its calls.
func TestP35ProcessItself(t *testing.T) {
	for _, letters := range rightLetters {
		for slot := range 4 {
			process := run(0)
			process.Slots[slot] = right(1, 0, letters)
			for _, d := range demands {
				want := -1
				if d.name == "CallCopy" {
					want = 0
				}
				if got := impl.CheckCall([]impl.Thing{process}, impl.Call{Kind: d.kind, Run: 1, A: slot}); got != want {
					t.Errorf("%s of the process itself with %s is %d, want %d", d.name, letters, got, want)
				}
			}
		}
	}
}

func TestP36GoneOnlyIfSeen(t *testing.T) {
	gone := 0
	eachCheck(func(s scene, d demand, got int) {
		if got == -3 {
			gone++
			if !s.sees() || !s.gone {
				t.Errorf("%s in %+v is AnsGone", d.name, s)
			}
		}
		if got == 0 && d.name != "CallCopy" && s.sees() && s.gone {
			t.Errorf("%s in %+v is 0", d.name, s)
		}
	})
	if gone < 500 {
		t.Errorf("only %d calls are AnsGone", gone)
	}
}

// TestP36Versions has each version of a right with each version of the object.
func TestP36Versions(t *testing.T) {
	for _, d := range demands {
		for _, kind := range d.objects {
			if kind == impl.KindGate {
				continue
			}
			for now := 0; now <= 5; now++ {
				for was := 0; was <= now; was++ {
					table := scene{kind, seesBoth[0], seesBoth[1], "rw-", false}.table()
					table[sceneObject-1].Vers = now
					table[sceneProcess-1].Slots[sceneSlot].Vers = was
					table[sceneProcess-1].Slots[3] = noRight
					want := -3
					if impl.TableLive(table, table[sceneProcess-1].Slots[sceneSlot]) {
						want = 0
					}
					if got := impl.CheckCall(table, sceneCall(d.kind)); got != want || (want == 0) != (was == now) {
						t.Errorf("%s of version %d of a %s that is at %d is %d, want %d", d.name, was, shapes[kind-1].name, now, got, want)
					}
				}
			}
		}
	}
}

// TestP36SeenAndUnseen has live rights and those to an earlier version, with and without a process that observes the object.
func TestP36SeenAndUnseen(t *testing.T) {
	cases := []struct {
		what       string
		call, kind int
		labels     [2]impl.Label
		gone       bool
		want       int
	}{
		{"seen and live", impl.CallRead, 1, seesOnly, false, 0},
		{"seen and gone", impl.CallRead, 1, seesOnly, true, -3},
		{"seen and live", impl.CallFetch, 2, seesOnly, false, 0},
		{"seen and gone", impl.CallFetch, 2, seesOnly, true, -3},
		{"equal and live", impl.CallWrite, 1, seesBoth, false, 0},
		{"equal and gone", impl.CallWrite, 1, seesBoth, true, -3},
		{"unseen and live", impl.CallWrite, 1, touchesOnly, false, 0},
		{"unseen and gone", impl.CallWrite, 1, touchesOnly, true, 0},
		{"equal and gone", impl.CallStore, 2, seesBoth, true, -3},
		{"unseen and gone", impl.CallStore, 2, touchesOnly, true, 0},
		{"equal and gone", impl.CallSend, 4, seesBoth, true, -3},
		{"unseen and gone", impl.CallSend, 4, touchesOnly, true, 0},
		{"equal and live", impl.CallTake, 4, seesBoth, false, 0},
		{"equal and gone", impl.CallTake, 4, seesBoth, true, -3},
		{"equal and gone", impl.CallRenew, 1, seesBoth, true, -3},
		{"unseen and gone", impl.CallRenew, 1, touchesOnly, true, 0},
		{"equal and gone", impl.CallRenew, 2, seesBoth, true, -3},
		{"unseen and gone", impl.CallRenew, 2, touchesOnly, true, 0},
		{"equal and gone", impl.CallRenew, 4, seesBoth, true, -3},
		{"unseen and gone", impl.CallRenew, 4, touchesOnly, true, 0},
		{"equal and gone", impl.CallCopy, 1, seesBoth, true, 0},
		{"unseen and gone", impl.CallCopy, 4, touchesOnly, true, 0},
	}
	for _, c := range cases {
		if got := (scene{c.kind, c.labels[0], c.labels[1], "rw-", c.gone}).check(c.call); got != c.want {
			t.Errorf("%s: %s of a %s is %d, want %d", c.what, demands[c.call-1].name, shapes[c.kind-1].name, got, c.want)
		}
	}
}

// TestP36TwoCodesAtOnce has calls to which two or three codes apply: the one that is listed first is told.
func TestP36TwoCodesAtOnce(t *testing.T) {
	cases := []struct {
		what       string
		call, kind int
		labels     [2]impl.Label
		letters    string
		gone       bool
		want       int
	}{
		{"no reading, may not flow", impl.CallRead, 1, touchesOnly, "-w-", false, -1},
		{"no reading, may not flow", impl.CallFetch, 2, seesNeither, "--k", false, -1},
		{"no writing, may not flow", impl.CallWrite, 1, seesOnly, "r--", false, -1},
		{"no writing, may not flow", impl.CallStore, 2, seesOnly, "r-k", false, -1},
		{"no writing, may not flow", impl.CallTake, 4, touchesOnly, "r--", false, -1},
		{"no reading, may not flow", impl.CallTake, 4, touchesOnly, "-w-", false, -1},
		{"no writing, may not flow", impl.CallGate, 5, seesOnly, "r--", false, -1},
		{"other kind, may not flow", impl.CallRead, 4, touchesOnly, "rw-", false, -1},
		{"other kind, may not flow", impl.CallRenew, 5, seesOnly, "rw-", false, -1},
		{"no reading, gone", impl.CallRead, 1, seesBoth, "-w-", true, -1},
		{"no writing, gone", impl.CallSend, 4, seesBoth, "r--", true, -1},
		{"no writing, gone", impl.CallTake, 4, seesBoth, "r-k", true, -1},
		{"nothing, gone", impl.CallRenew, 2, seesBoth, "---", true, -1},
		{"other kind, gone", impl.CallRead, 2, seesOnly, "rw-", true, -1},
		{"other kind, gone", impl.CallGate, 1, seesBoth, "rw-", true, -1},
		{"may not flow, gone", impl.CallWrite, 1, seesOnly, "rw-", true, -2},
		{"may not flow, gone", impl.CallStore, 2, seesOnly, "-w-", true, -2},
		{"may not flow, gone", impl.CallSend, 4, seesOnly, "-w-", true, -2},
		{"may not flow, gone", impl.CallTake, 4, seesOnly, "rw-", true, -2},
		{"may not flow, gone", impl.CallRenew, 1, seesOnly, "rw-", true, -2},
		{"may not flow, gone", impl.CallRenew, 2, seesOnly, "rw-", true, -2},
		{"may not flow, gone", impl.CallRenew, 4, seesOnly, "rw-", true, -2},
		{"may not flow, gone but unseen", impl.CallRead, 1, touchesOnly, "rw-", true, -2},
		{"may not flow, gone but unseen", impl.CallTake, 4, touchesOnly, "rw-", true, -2},
		{"may not flow, gone but unseen", impl.CallWrite, 1, seesNeither, "rw-", true, -2},
		{"all three", impl.CallWrite, 1, seesOnly, "r--", true, -1},
		{"all three", impl.CallSend, 2, seesOnly, "rw-", true, -1},
		{"all three, to copy", impl.CallCopy, 1, seesOnly, "---", true, 0},
		{"may not flow, to copy", impl.CallCopy, 1, seesNeither, "rw-", false, 0},
	}
	for _, c := range cases {
		if got := (scene{c.kind, c.labels[0], c.labels[1], c.letters, c.gone}).check(c.call); got != c.want {
			t.Errorf("%s: %s of a %s is %d, want %d", c.what, demands[c.call-1].name, shapes[c.kind-1].name, got, c.want)
		}
	}
}

func TestP37FlowOfPages(t *testing.T) {
	read, write := 0, 0
	eachScene(func(s scene) {
		if s.kind != impl.KindPage || s.letters == "" {
			return
		}
		r := right(1, 0, s.letters)
		if r.Read && !s.sees() {
			read++
			if got := s.check(impl.CallRead); got != -2 {
				t.Errorf("CallRead in %+v is %d", s, got)
			}
		}
		if r.Write && !s.touches() {
			write++
			if got := s.check(impl.CallWrite); got != -2 {
				t.Errorf("CallWrite in %+v is %d", s, got)
			}
		}
	})
	if read < 100 || write < 100 {
		t.Errorf("only %d and %d calls", read, write)
	}
}

// TestP37FlowOnlyWhereItMayNot holds that AnsFlow is told for no other reason.
func TestP37FlowOnlyWhereItMayNot(t *testing.T) {
	flow := 0
	eachCheck(func(s scene, d demand, got int) {
		if got != -2 {
			return
		}
		flow++
		if !(d.observe && !s.sees() || d.modify && !s.touches()) {
			t.Errorf("%s in %+v is AnsFlow", d.name, s)
		}
	})
	if flow < 500 {
		t.Errorf("only %d calls are AnsFlow", flow)
	}
}

func TestP38SlotBAndNumber(t *testing.T) {
	for _, labels := range [][2]impl.Label{seesOnly, touchesOnly, seesBoth, seesNeither} {
		for _, shape := range shapes {
			for _, letters := range append([]string{""}, rightLetters...) {
				for _, gone := range []bool{false, letters != "" && shape.vers[1] > 0} {
					s := scene{shape.kind, labels[0], labels[1], letters, gone}
					table := s.table()
					for _, d := range demands {
						c := sceneCall(d.kind)
						first := impl.CheckCall(table, c)
						for b := range 4 {
							for n := range 100 {
								c.B, c.N = b, n
								if got := impl.CheckCall(table, c); got != first {
									t.Errorf("%s in %+v is %d, but %d with slot B %d and number %d", d.name, s, first, got, b, n)
								}
							}
						}
					}
				}
			}
		}
	}
}

// TestP38OtherProcess holds that the number of the process, its result, its other slots and the number of the slot do not matter.
func TestP38OtherProcess(t *testing.T) {
	eachScene(func(s scene) {
		table := s.table()
		used := table[sceneProcess-1].Slots[sceneSlot]
		for _, fill := range []impl.Right{noRight, right(1, 4, "rw-"), right(sceneObject, 0, "rw-")} {
			other := run(-4, slices.Repeat([]impl.Right{fill}, 4)...)
			other.Label = s.process
			slot := fill.Thing
			other.Slots[slot] = used
			table = append(table, other)
			for _, d := range demands {
				first := impl.CheckCall(table, sceneCall(d.kind))
				c := impl.Call{Kind: d.kind, Run: len(table), A: slot, B: 3}
				if got := impl.CheckCall(table, c); got != first {
					t.Errorf("%s in %+v is %d, but %d by process %d with the same right in slot %d", d.name, s, first, got, len(table), slot)
				}
			}
		}
	})
}

// TestP38ArgumentsStay holds that no function changes its arguments, nor minds what is behind the ends of slices.
func TestP38ArgumentsStay(t *testing.T) {
	for _, plain := range everyTable() {
		table := roomy(plain)
		before := whole(table)
		for number := range 10 {
			for other := range 10 {
				if impl.CheckSees(table, number, other) != impl.CheckSees(plain, number, other) || impl.CheckTouches(table, number, other) != impl.CheckTouches(plain, number, other) {
					t.Errorf("what is behind the ends of slices changes what process %d may do to %d in %v", number, other, plain)
				}
			}
			for _, d := range demands {
				for a := range 5 {
					c := impl.Call{Kind: d.kind, Run: number, A: a}
					if impl.CheckCall(table, c) != impl.CheckCall(plain, c) {
						t.Errorf("what is behind the ends of slices changes CheckCall(%v, %+v)", plain, c)
					}
				}
			}
		}
		if after := whole(table); !reflect.DeepEqual(after, before) {
			t.Errorf("the argument is changed from %v to %v", before, after)
		}
	}
}

// TestP38NilIsEmpty holds that a nil slice and an empty one count as the same.
func TestP38NilIsEmpty(t *testing.T) {
	for _, plain := range everyTable() {
		one, other := copyTable(plain), copyTable(plain)
		for i, thing := range plain {
			if len(thing.Slots) == 0 {
				one[i].Slots, other[i].Slots = nil, []impl.Right{}
			}
			if len(thing.Queue) == 0 {
				one[i].Queue, other[i].Queue = nil, []int{}
			}
		}
		for number := range 10 {
			for object := range 10 {
				if impl.CheckSees(one, number, object) != impl.CheckSees(other, number, object) || impl.CheckTouches(one, number, object) != impl.CheckTouches(other, number, object) {
					t.Errorf("what process %d may do to %d depends on nil slices in %v", number, object, plain)
				}
			}
			for _, d := range demands {
				for a := range 4 {
					c := impl.Call{Kind: d.kind, Run: number, A: a}
					if impl.CheckCall(one, c) != impl.CheckCall(other, c) {
						t.Errorf("CheckCall of %+v depends on nil slices in %v", c, plain)
					}
				}
			}
		}
	}
	for _, empty := range [][]impl.Thing{nil, {}} {
		if impl.CheckSees(empty, 1, 1) || impl.CheckTouches(empty, 1, 1) || impl.CheckCall(empty, impl.Call{Kind: 1, Run: 1}) != -1 || impl.CheckCall(empty, impl.Call{Kind: 3, Run: 1}) != -1 {
			t.Errorf("%#v counts as a table", empty)
		}
	}
}
