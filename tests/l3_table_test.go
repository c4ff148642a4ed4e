package tests

import (
	"fmt"
	"math"
	"reflect"
	"slices"
	"strings"
	"testing"

	"loop.example/drawbar/impl"
)

// shape is what the document says of a kind: the least and the greatest number of each field, how many rights it has, and how many numbers are in its queue at most.
type shape struct {
	kind          int
	name          string
	vers, num, to [2]int
	rights, queue int
}

var shapes = []shape{
	{kind: 1, name: "page", vers: [2]int{0, 5}, num: [2]int{0, 99}},
	{kind: 2, name: "node", vers: [2]int{0, 5}, rights: 4},
	{kind: 3, name: "run", num: [2]int{-4, 99}, rights: 4},
	{kind: 4, name: "pipe", vers: [2]int{0, 5}, queue: 3},
	{kind: 5, name: "gate", num: [2]int{0, 99}, to: [2]int{1, 8}},
}

func inside(n int, bounds [2]int) bool {
	return bounds[0] <= n && n <= bounds[1]
}

// plain is a valid object of the shape, with no slice where there is none.
func (s shape) plain() impl.Thing {
	thing := impl.Thing{Kind: s.kind, To: s.to[0]}
	if s.rights > 0 {
		thing.Slots = make([]impl.Right, s.rights)
	}
	return thing
}

// manyNumbers has all numbers around the ranges, and others with the low bits of one of these.
func manyNumbers() []int {
	out := append(slices.Clone(numbersOutside), math.MinInt32-4, math.MaxInt-95, 1<<32+99, 1<<16, 1<<8+5, -1<<8)
	for n := -150; n <= 150; n++ {
		out = append(out, n)
	}
	return out
}

func page(num, vers int) impl.Thing {
	return impl.Thing{Kind: 1, Num: num, Vers: vers}
}

func node(vers int, rights ...impl.Right) impl.Thing {
	return impl.Thing{Kind: 2, Vers: vers, Slots: append(rights, make([]impl.Right, 4-len(rights))...)}
}

func run(num int, rights ...impl.Right) impl.Thing {
	return impl.Thing{Kind: 3, Num: num, Slots: append(rights, make([]impl.Right, 4-len(rights))...)}
}

func pipe(vers int, queue ...int) impl.Thing {
	return impl.Thing{Kind: 4, Vers: vers, Queue: queue}
}

func gate(num, to int) impl.Thing {
	return impl.Thing{Kind: 5, Num: num, To: to}
}

func copyThing(thing impl.Thing) impl.Thing {
	thing.Slots = slices.Clone(thing.Slots)
	thing.Queue = slices.Clone(thing.Queue)
	return thing
}

func copyTable(table []impl.Thing) []impl.Thing {
	var out []impl.Thing
	for _, thing := range table {
		out = append(out, copyThing(thing))
	}
	return out
}

// sameThing counts a nil slice and an empty one as the same.
func sameThing(a, b impl.Thing) bool {
	return a.Kind == b.Kind && a.Label == b.Label && a.Vers == b.Vers && a.Num == b.Num && a.To == b.To &&
		slices.Equal(a.Slots, b.Slots) && slices.Equal(a.Queue, b.Queue)
}

func sameTable(a, b []impl.Thing) bool {
	return slices.EqualFunc(a, b, sameThing)
}

// with is a copy of the table in which one object is changed.
func with(table []impl.Thing, i int, change func(thing *impl.Thing)) []impl.Thing {
	out := copyTable(table)
	change(&out[i])
	return out
}

// wide has eight objects, of each kind one at least, with fields at and between their bounds, and rights of all sorts.
func wide() []impl.Thing {
	table := []impl.Thing{
		page(99, 5),
		node(3, right(2, 3, "rw-"), right(1, 0, "r-k"), right(8, 0, "---"), noRight),
		run(-4, right(1, 5, "rw-"), right(3, 0, "--k"), noRight, right(5, 2, "r--")),
		pipe(0, 0, 99, 7),
		pipe(2),
		gate(99, 8),
		run(99, noRight, right(2, 2, "-w-"), right(6, 0, "-w-"), right(7, 0, "rw-")),
		page(0, 0),
	}
	labels := allLabels()
	for i := range table {
		table[i].Label = labels[(7*i+3)%len(labels)]
	}
	return table
}

// firstPage is the number of the first page, or 0.
func firstPage(table []impl.Thing) int {
	return slices.IndexFunc(table, func(thing impl.Thing) bool { return thing.Kind == 1 }) + 1
}

// filled is a table of these kinds, whose fields differ from object to object; a gate needs a page among them.
func filled(kinds []int) []impl.Thing {
	var table []impl.Thing
	for i, kind := range kinds {
		thing := shapes[kind-1].plain()
		thing.Label = label(i%4, (i+kind)%4)
		if kind == 1 || kind == 2 || kind == 4 {
			thing.Vers = (2*i + kind) % 6
		}
		if kind == 1 || kind == 3 || kind == 5 {
			thing.Num = (37*i + kind) % 100
		}
		if kind == 4 {
			thing.Queue = []int{i, 99 - i, 50}[:(i+1)%4]
		}
		table = append(table, thing)
	}
	for i := range table {
		if table[i].Kind == 5 {
			table[i].To = firstPage(table)
		}
		for slot := range table[i].Slots {
			to := (i + slot) % (len(table) + 1)
			if to > 0 {
				vers := table[to-1].Vers - slot%2
				table[i].Slots[slot] = right(to, max(vers, 0), rightLetters[(i+2*slot)%6])
			}
		}
	}
	return table
}

// kindLists has all lists of one to three kinds, and some of eight.
func kindLists() [][]int {
	var out [][]int
	lists := [][]int{{}}
	for range 3 {
		var longer [][]int
		for _, list := range lists {
			for kind := 1; kind <= 5; kind++ {
				longer = append(longer, append(slices.Clone(list), kind))
			}
		}
		out = append(out, longer...)
		lists = longer
	}
	for kind := 1; kind <= 5; kind++ {
		list := []int{1}
		for i := range 7 {
			list = append(list, (kind+i*kind)%5+1)
		}
		out = append(out, list, append(slices.Repeat([]int{kind}, 7), 1))
	}
	return out
}

// someTables has tables of one to eight objects.
func someTables() [][]impl.Thing {
	out := [][]impl.Thing{wide()}
	for _, kinds := range kindLists() {
		if slices.Contains(kinds, 5) && !slices.Contains(kinds, 1) {
			continue
		}
		out = append(out, filled(kinds))
	}
	for n := 1; n <= 8; n++ {
		out = append(out, filled(slices.Repeat([]int{1, 3, 2, 4}, 2)[:n]))
	}
	return out
}

// badTables has lists of objects that are not a table, by what is wrong.
func badTables() map[string][]impl.Thing {
	table := wide()
	return map[string][]impl.Thing{
		"nil":                        nil,
		"empty":                      {},
		"one object too many":        append(wide(), page(0, 0)),
		"no kind":                    {{}},
		"unknown kind":               with(table, 0, func(x *impl.Thing) { x.Kind = 6 }),
		"invalid label":              with(table, 7, func(x *impl.Thing) { x.Label.Vouch = 4 }),
		"number too great":           with(table, 0, func(x *impl.Thing) { x.Num = 100 }),
		"version too great":          with(table, 3, func(x *impl.Thing) { x.Vers = 6 }),
		"process with a version":     with(table, 2, func(x *impl.Thing) { x.Vers = 1 }),
		"right too few":              with(table, 1, func(x *impl.Thing) { x.Slots = x.Slots[:3] }),
		"right too many":             with(table, 6, func(x *impl.Thing) { x.Slots = append(x.Slots, noRight) }),
		"invalid right":              with(table, 1, func(x *impl.Thing) { x.Slots[3] = right(1, 0, "rwk") }),
		"right to a later version":   with(table, 2, func(x *impl.Thing) { x.Slots[3].Vers = 3 }),
		"right to no object":         table[:7],
		"gate to a process":          with(table, 5, func(x *impl.Thing) { x.To = 3 }),
		"gate to itself":             {page(0, 0), gate(0, 2)},
		"gate to no object":          {page(0, 0), gate(0, 3)},
		"number too many in a queue": with(table, 3, func(x *impl.Thing) { x.Queue = []int{1, 2, 3, 4} }),
		"number of a queue negative": with(table, 4, func(x *impl.Thing) { x.Queue = []int{-1} }),
	}
}

func TestP21NewOfEachKind(t *testing.T) {
	for _, s := range shapes {
		for _, l := range allLabels() {
			for _, to := range manyNumbers() {
				got, ok := impl.ThingNew(s.kind, l, to)
				if ok != inside(to, s.to) {
					t.Errorf("ThingNew(%d, %v, %d) is %v", s.kind, l, to, ok)
				}
				want := impl.Thing{}
				if ok {
					want = s.plain()
					want.Label, want.To = l, to
				}
				if !sameThing(got, want) || impl.ThingOk(got) != ok {
					t.Errorf("ThingNew(%d, %v, %d) = %v, want %v", s.kind, l, to, got, want)
				}
			}
		}
	}
}

func TestP21Examples(t *testing.T) {
	cases := []struct {
		kind int
		to   int
		want impl.Thing
	}{
		{impl.KindPage, 0, impl.Thing{Kind: 1, Label: label(2, 1)}},
		{impl.KindNode, 0, impl.Thing{Kind: 2, Label: label(2, 1), Slots: []impl.Right{{}, {}, {}, {}}}},
		{impl.KindRun, 0, impl.Thing{Kind: 3, Label: label(2, 1), Slots: []impl.Right{{}, {}, {}, {}}}},
		{impl.KindPipe, 0, impl.Thing{Kind: 4, Label: label(2, 1)}},
		{impl.KindGate, 1, impl.Thing{Kind: 5, Label: label(2, 1), To: 1}},
		{impl.KindGate, 8, impl.Thing{Kind: 5, Label: label(2, 1), To: 8}},
	}
	for _, c := range cases {
		got, ok := impl.ThingNew(c.kind, label(2, 1), c.to)
		if !ok || !sameThing(got, c.want) {
			t.Errorf("ThingNew(%d, 2/1, %d) = %v, %v, want %v", c.kind, c.to, got, ok, c.want)
		}
	}
	for _, c := range [][2]int{{1, 1}, {2, 1}, {3, 8}, {4, 8}, {1, -1}, {5, 0}, {5, 9}, {5, -1}, {0, 0}, {6, 0}, {6, 1}, {-1, 0}} {
		if got, ok := impl.ThingNew(c[0], label(2, 1), c[1]); ok || !sameThing(got, impl.Thing{}) {
			t.Errorf("ThingNew(%d, 2/1, %d) = %v, %v, want false", c[0], c[1], got, ok)
		}
	}
}

func TestP21NewOfNoKind(t *testing.T) {
	for _, kind := range manyNumbers() {
		if inside(kind, [2]int{1, 5}) {
			continue
		}
		for _, l := range allLabels() {
			for to := -1; to <= 9; to++ {
				if got, ok := impl.ThingNew(kind, l, to); ok || !sameThing(got, impl.Thing{}) {
					t.Errorf("ThingNew(%d, %v, %d) = %v, %v, want false", kind, l, to, got, ok)
				}
			}
		}
	}
}

func TestP21NewWithInvalidLabel(t *testing.T) {
	for _, s := range shapes {
		for _, l := range invalidLabels() {
			if got, ok := impl.ThingNew(s.kind, l, s.to[0]); ok || !sameThing(got, impl.Thing{}) {
				t.Errorf("ThingNew(%d, %v, %d) = %v, %v, want false", s.kind, l, s.to[0], got, ok)
			}
		}
	}
}

func TestP21NewObjectsShareNoMemory(t *testing.T) {
	for _, s := range shapes {
		first, _ := impl.ThingNew(s.kind, label(1, 1), s.to[0])
		second, _ := impl.ThingNew(s.kind, label(1, 1), s.to[0])
		// Also what a slice has room for beyond its end must not be another's.
		slots, queue := first.Slots[:cap(first.Slots)], first.Queue[:cap(first.Queue)]
		for i := range slots {
			slots[i] = right(1, 0, "rw-")
		}
		for i := range queue {
			queue[i] = 9
		}
		first.Slots = append(first.Slots, right(2, 0, "rw-"))
		first.Queue = append(first.Queue, 8)
		third, _ := impl.ThingNew(s.kind, label(1, 1), s.to[0])
		for _, got := range []impl.Thing{second, third} {
			room := impl.Thing{Slots: got.Slots[:cap(got.Slots)], Queue: got.Queue[:cap(got.Queue)]}
			if slices.ContainsFunc(room.Slots, func(r impl.Right) bool { return r != noRight }) || slices.ContainsFunc(room.Queue, func(n int) bool { return n != 0 }) {
				t.Errorf("a new %s has what was put into another one: %v", s.name, room)
			}
			want := s.plain()
			want.Label = label(1, 1)
			if !sameThing(got, want) {
				t.Errorf("a new %s is changed with another one: %v", s.name, got)
			}
		}
	}
}

func TestP22NumbersOfEachKind(t *testing.T) {
	if impl.SlotMax != 4 || impl.NumMax != 99 || impl.QueueMax != 3 {
		t.Fatalf("SlotMax = %d, NumMax = %d, QueueMax = %d", impl.SlotMax, impl.NumMax, impl.QueueMax)
	}
	for _, s := range shapes {
		for _, n := range manyNumbers() {
			vers, num, to := s.plain(), s.plain(), s.plain()
			vers.Vers, num.Num, to.To = n, n, n
			if impl.ThingOk(vers) != inside(n, s.vers) {
				t.Errorf("ThingOk(%v) is not %v", vers, inside(n, s.vers))
			}
			if impl.ThingOk(num) != inside(n, s.num) {
				t.Errorf("ThingOk(%v) is not %v", num, inside(n, s.num))
			}
			if impl.ThingOk(to) != inside(n, s.to) {
				t.Errorf("ThingOk(%v) is not %v", to, inside(n, s.to))
			}
		}
	}
}

// TestP22NumbersTogether holds that a field out of range is not made up for by another one.
func TestP22NumbersTogether(t *testing.T) {
	numbers := []int{math.MinInt, -5, -4, -1, 0, 1, 5, 6, 8, 9, 99, 100, math.MaxInt}
	for _, s := range shapes {
		for _, vers := range numbers {
			for _, num := range numbers {
				for _, to := range numbers {
					thing := s.plain()
					thing.Vers, thing.Num, thing.To = vers, num, to
					want := inside(vers, s.vers) && inside(num, s.num) && inside(to, s.to)
					if impl.ThingOk(thing) != want {
						t.Errorf("ThingOk(%v) is not %v", thing, want)
					}
				}
			}
		}
	}
}

func TestP22Examples(t *testing.T) {
	four := make([]impl.Right, 4)
	cases := []struct {
		what  string
		thing impl.Thing
		want  bool
	}{
		{"nothing", impl.Thing{}, false},
		{"a page", impl.Thing{Kind: 1}, true},
		{"a page at its bounds", impl.Thing{Kind: 1, Label: label(3, 3), Vers: 5, Num: 99}, true},
		{"a page with too great a number", impl.Thing{Kind: 1, Num: 100}, false},
		{"a page with a negative number", impl.Thing{Kind: 1, Num: -1}, false},
		{"a page with rights", impl.Thing{Kind: 1, Slots: four}, false},
		{"a page with one right", impl.Thing{Kind: 1, Slots: four[:1]}, false},
		{"a page with a queue", impl.Thing{Kind: 1, Queue: []int{0}}, false},
		{"a page with a target", impl.Thing{Kind: 1, To: 1}, false},
		{"a node", impl.Thing{Kind: 2, Slots: four}, true},
		{"a node of the last version", impl.Thing{Kind: 2, Vers: 5, Slots: four}, true},
		{"a node with a number", impl.Thing{Kind: 2, Num: 1, Slots: four}, false},
		{"a node without rights", impl.Thing{Kind: 2}, false},
		{"a node with a queue", impl.Thing{Kind: 2, Slots: four, Queue: []int{0}}, false},
		{"a node with a target", impl.Thing{Kind: 2, Slots: four, To: 1}, false},
		{"a process", impl.Thing{Kind: 3, Slots: four}, true},
		{"a process with the least result", impl.Thing{Kind: 3, Num: -4, Slots: four}, true},
		{"a process with the greatest result", impl.Thing{Kind: 3, Num: 99, Slots: four}, true},
		{"a process with less", impl.Thing{Kind: 3, Num: -5, Slots: four}, false},
		{"a process with more", impl.Thing{Kind: 3, Num: 100, Slots: four}, false},
		{"a process with a version", impl.Thing{Kind: 3, Vers: 1, Slots: four}, false},
		{"a process without rights", impl.Thing{Kind: 3}, false},
		{"a process with a queue", impl.Thing{Kind: 3, Slots: four, Queue: []int{0}}, false},
		{"a process with a target", impl.Thing{Kind: 3, Slots: four, To: 1}, false},
		{"an empty pipe", impl.Thing{Kind: 4}, true},
		{"a pipe with one number", impl.Thing{Kind: 4, Vers: 5, Queue: []int{99}}, true},
		{"a full pipe", impl.Thing{Kind: 4, Queue: []int{0, 99, 0}}, true},
		{"a pipe with more", impl.Thing{Kind: 4, Queue: []int{0, 0, 0, 0}}, false},
		{"a pipe with a number of its own", impl.Thing{Kind: 4, Num: 1}, false},
		{"a pipe with a negative number of its own", impl.Thing{Kind: 4, Num: -1}, false},
		{"a pipe with rights", impl.Thing{Kind: 4, Slots: four}, false},
		{"a pipe with a target", impl.Thing{Kind: 4, To: 1}, false},
		{"a gate", impl.Thing{Kind: 5, To: 1}, true},
		{"a gate at its bounds", impl.Thing{Kind: 5, Num: 99, To: 8}, true},
		{"a gate without a target", impl.Thing{Kind: 5}, false},
		{"a gate with too great a target", impl.Thing{Kind: 5, To: 9}, false},
		{"a gate with a version", impl.Thing{Kind: 5, Vers: 1, To: 1}, false},
		{"a gate with a negative count", impl.Thing{Kind: 5, Num: -1, To: 1}, false},
		{"a gate with rights", impl.Thing{Kind: 5, Slots: four, To: 1}, false},
		{"a gate with a queue", impl.Thing{Kind: 5, Queue: []int{0}, To: 1}, false},
	}
	for _, c := range cases {
		if impl.ThingOk(c.thing) != c.want {
			t.Errorf("%s: ThingOk(%v) is not %v", c.what, c.thing, c.want)
		}
	}
}

func TestP22CountsOfEachKind(t *testing.T) {
	for _, s := range shapes {
		for _, count := range []int{0, 1, 2, 3, 4, 5, 6, 7, 8, 12, 100, 256, 260} {
			rights, filledRights, queue := s.plain(), s.plain(), s.plain()
			rights.Slots = make([]impl.Right, count)
			filledRights.Slots = slices.Repeat([]impl.Right{right(1, 0, "r--")}, count)
			queue.Queue = make([]int, count)
			if impl.ThingOk(rights) != (count == s.rights) || impl.ThingOk(filledRights) != (count == s.rights) {
				t.Errorf("ThingOk of a %s with %d rights is not %v", s.name, count, count == s.rights)
			}
			if impl.ThingOk(queue) != (count <= s.queue) {
				t.Errorf("ThingOk of a %s with %d numbers is not %v", s.name, count, count <= s.queue)
			}
		}
	}
}

func TestP22NumbersInQueue(t *testing.T) {
	for length := 1; length <= 3; length++ {
		for place := range length {
			for _, n := range manyNumbers() {
				queue := slices.Repeat([]int{42}, length)
				queue[place] = n
				if impl.ThingOk(pipe(1, queue...)) != inside(n, [2]int{0, 99}) {
					t.Errorf("ThingOk of a pipe with %v is not %v", queue, inside(n, [2]int{0, 99}))
				}
			}
		}
	}
}

func TestP22RightsInSlots(t *testing.T) {
	for _, holder := range []impl.Thing{node(0), run(0)} {
		for slot := range 4 {
			check := func(r impl.Right, want bool) {
				thing := copyThing(holder)
				thing.Slots[slot] = r
				if impl.ThingOk(thing) != want {
					t.Errorf("ThingOk(%v) is not %v", thing, want)
				}
			}
			for _, r := range allRights() {
				check(r, true)
			}
			for _, r := range invalidRights() {
				check(r, false)
			}
		}
	}
}

func TestP22Labels(t *testing.T) {
	for _, s := range shapes {
		thing := s.plain()
		for _, thing.Label = range allLabels() {
			if !impl.ThingOk(thing) {
				t.Errorf("ThingOk(%v) is false", thing)
			}
		}
		for _, thing.Label = range invalidLabels() {
			if impl.ThingOk(thing) {
				t.Errorf("ThingOk(%v) is true", thing)
			}
		}
	}
}

// TestP22Kinds gives an object another kind: without anything in its fields, a page and a pipe are alike, and so are a node and a process.
func TestP22Kinds(t *testing.T) {
	alike := map[int][]int{1: {1, 4}, 2: {2, 3}, 3: {2, 3}, 4: {1, 4}, 5: {5}}
	for _, s := range shapes {
		for _, kind := range manyNumbers() {
			thing := s.plain()
			thing.Kind = kind
			if want := slices.Contains(alike[s.kind], kind); impl.ThingOk(thing) != want {
				t.Errorf("ThingOk(%v) is not %v", thing, want)
			}
		}
	}
}

func TestP22NilIsEmpty(t *testing.T) {
	for _, s := range shapes {
		for _, slots := range [][]impl.Right{nil, {}, make([]impl.Right, 0, 4)} {
			for _, queue := range [][]int{nil, {}, make([]int, 0, 3)} {
				thing := impl.Thing{Kind: s.kind, Slots: slots, Queue: queue, To: s.to[0]}
				if impl.ThingOk(thing) != (s.rights == 0) {
					t.Errorf("ThingOk of a %s with %#v and %#v is not %v", s.name, slots, queue, s.rights == 0)
				}
				thing = s.plain()
				thing.Queue = queue
				if !impl.ThingOk(thing) {
					t.Errorf("ThingOk of a %s with the queue %#v is false", s.name, queue)
				}
			}
		}
	}
}

func TestP23SomeTables(t *testing.T) {
	for _, table := range someTables() {
		if !impl.TableOk(table) {
			t.Errorf("TableOk(%v) is false", table)
		}
	}
	for what, table := range badTables() {
		if impl.TableOk(table) {
			t.Errorf("%s: TableOk(%v) is true", what, table)
		}
	}
}

func TestP23Sizes(t *testing.T) {
	for _, s := range shapes[:4] {
		for size := range 300 {
			table := []impl.Thing{}
			for range size {
				table = append(table, s.plain())
			}
			if impl.TableOk(table) != (1 <= size && size <= 8) {
				t.Errorf("TableOk of %d objects of kind %s is %v", size, s.name, impl.TableOk(table))
			}
		}
	}
	for _, table := range [][]impl.Thing{nil, {}, make([]impl.Thing, 0, 8), wide()[:0]} {
		if impl.TableOk(table) {
			t.Errorf("TableOk(%#v) is true", table)
		}
	}
}

// TestP23InvalidObject puts each of many invalid objects at each place of a table.
func TestP23InvalidObject(t *testing.T) {
	bad := []impl.Thing{{}, {Kind: 6}, {Kind: -1}, {Kind: math.MaxInt}, {Kind: math.MinInt}, {Kind: 2}, {Kind: 3}, {Kind: 5}, gate(0, 9), gate(100, 1), page(100, 0), page(-1, 0), page(0, 6), page(0, -1), node(6), run(-5), run(100), pipe(6), pipe(0, 1, 2, 3, 4), pipe(0, 100), pipe(0, -1), node(0, right(0, 1, "---")), run(0, right(9, 0, "r--")), node(0, right(1, 6, "r--")), run(0, right(1, 0, "-wk"))}
	for size := 1; size <= 8; size++ {
		for place := range size {
			for _, thing := range bad {
				table := slices.Repeat([]impl.Thing{page(0, 0)}, size)
				table[place] = thing
				if impl.TableOk(table) {
					t.Errorf("TableOk(%v) is true", table)
				}
			}
			table := slices.Repeat([]impl.Thing{page(0, 0)}, size)
			for _, table[place].Label = range invalidLabels() {
				if impl.TableOk(table) {
					t.Errorf("TableOk(%v) is true", table)
				}
			}
		}
	}
}

// TestP23Rights puts every right into every slot of tables of each size, whose objects have different versions.
func TestP23Rights(t *testing.T) {
	objects := []impl.Thing{page(1, 2), node(5), run(-1), pipe(0, 1), page(2, 4), node(0), run(3), pipe(3)}
	for size := 2; size <= 8; size++ {
		for i := range size {
			for slot := range len(objects[i].Slots) {
				table := copyTable(objects[:size])
				for _, r := range allRights() {
					table[i].Slots[slot] = r
					want := r == noRight || r.Thing <= size && r.Vers <= table[r.Thing-1].Vers
					if impl.TableOk(table) != want {
						t.Errorf("TableOk is not %v with %v in slot %d of object %d of %d", want, r, slot, i+1, size)
					}
				}
				for _, r := range invalidRights() {
					table[i].Slots[slot] = r
					if impl.TableOk(table) {
						t.Errorf("TableOk is true with the invalid %v in slot %d of object %d of %d", r, slot, i+1, size)
					}
				}
			}
		}
	}
}

func TestP23RightExamples(t *testing.T) {
	cases := []struct {
		what  string
		table []impl.Thing
		want  bool
	}{
		{"null", []impl.Thing{node(0, noRight)}, true},
		{"to the node itself", []impl.Thing{node(0, right(1, 0, "rw-"))}, true},
		{"to the process itself", []impl.Thing{run(0, right(1, 0, "rw-"))}, true},
		{"to an earlier object", []impl.Thing{page(0, 0), run(0, right(1, 0, "rw-"))}, true},
		{"to a later object", []impl.Thing{run(0, right(2, 0, "rw-")), page(0, 0)}, true},
		{"to a gate", []impl.Thing{page(0, 0), run(0, right(3, 0, "-w-")), gate(0, 1)}, true},
		{"to an earlier version", []impl.Thing{run(0, right(2, 3, "rw-")), page(0, 4)}, true},
		{"to the first version", []impl.Thing{run(0, right(2, 0, "rw-")), page(0, 5)}, true},
		{"to the current version", []impl.Thing{run(0, right(2, 4, "rw-")), page(0, 4)}, true},
		{"to the next version", []impl.Thing{run(0, right(2, 5, "rw-")), page(0, 4)}, false},
		{"to a version of a process", []impl.Thing{run(0, right(1, 1, "---"))}, false},
		{"to a version of a gate", []impl.Thing{page(0, 5), run(0, right(3, 1, "-w-")), gate(0, 1)}, false},
		{"to an object behind the last one", []impl.Thing{page(0, 0), run(0, right(3, 0, "---"))}, false},
		{"in the last slot, to no object", []impl.Thing{run(0, noRight, noRight, noRight, right(2, 0, "---"))}, false},
		{"in the second node, to no object", []impl.Thing{node(0), node(0, right(3, 0, "---"))}, false},
	}
	for _, c := range cases {
		if impl.TableOk(c.table) != c.want {
			t.Errorf("%s: TableOk(%v) is not %v", c.what, c.table, c.want)
		}
	}
}

// TestP23Targets lets a gate at each place go to each number, among objects of each kind.
func TestP23Targets(t *testing.T) {
	others := []impl.Thing{page(0, 0), node(0), run(0), pipe(0), page(9, 5), gate(0, 1), pipe(1, 2)}
	for size := range len(others) + 1 {
		for place := range size + 1 {
			table := slices.Insert(copyTable(others[:size]), place, gate(0, 1))
			for i := range table {
				if table[i].Kind == 5 {
					table[i].To = firstPage(table)
				}
			}
			for _, to := range manyNumbers() {
				table[place].To = to
				want := 1 <= to && to <= len(table) && table[to-1].Kind == 1
				if impl.TableOk(table) != want {
					t.Errorf("TableOk(%v) is not %v", table, want)
				}
			}
		}
	}
}

func TestP23TargetExamples(t *testing.T) {
	cases := []struct {
		what  string
		table []impl.Thing
		want  bool
	}{
		{"a page before it", []impl.Thing{page(0, 0), gate(0, 1)}, true},
		{"a page behind it", []impl.Thing{gate(0, 2), page(0, 0)}, true},
		{"two gates, one page", []impl.Thing{gate(0, 2), page(0, 0), gate(9, 2)}, true},
		{"itself", []impl.Thing{page(0, 0), gate(0, 2)}, false},
		{"itself, alone", []impl.Thing{gate(0, 1)}, false},
		{"another gate", []impl.Thing{page(0, 0), gate(0, 1), gate(0, 2)}, false},
		{"a node", []impl.Thing{page(0, 0), gate(0, 3), node(0)}, false},
		{"a process", []impl.Thing{page(0, 0), gate(0, 3), run(0)}, false},
		{"a pipe", []impl.Thing{page(0, 0), gate(0, 3), pipe(0)}, false},
		{"no object", []impl.Thing{page(0, 0), gate(0, 3)}, false},
		{"nothing", []impl.Thing{page(0, 0), gate(0, 0)}, false},
		{"one to a page, one to none", []impl.Thing{page(0, 0), gate(0, 1), gate(0, 8)}, false},
	}
	for _, c := range cases {
		if impl.TableOk(c.table) != c.want {
			t.Errorf("%s: TableOk(%v) is not %v", c.what, c.table, c.want)
		}
	}
}

// wantText is the text of a table by the document, put together in another way than the program does it.
func wantText(table []impl.Thing) string {
	var text strings.Builder
	for i, thing := range table {
		fmt.Fprintf(&text, "%d %s %d/%d %d %d", i+1, shapes[thing.Kind-1].name, thing.Label.Secret, thing.Label.Vouch, thing.Vers, thing.Num)
		for _, r := range thing.Slots {
			if r == noRight {
				fmt.Fprint(&text, " -")
				continue
			}
			fmt.Fprintf(&text, " %d.%d%s", r.Thing, r.Vers, lettersOf(r))
		}
		for _, n := range thing.Queue {
			fmt.Fprintf(&text, " <%d", n)
		}
		if thing.Kind == 5 {
			fmt.Fprintf(&text, " >%d", thing.To)
		}
		fmt.Fprintln(&text)
	}
	return text.String()
}

func TestP24Examples(t *testing.T) {
	want := "1 page 0/3 5 99\n" +
		"2 node 2/2 3 0 2.3rw- 1.0r-k 8.0--- -\n" +
		"3 run 0/1 0 -4 1.5rw- 3.0--k - 5.2r--\n" +
		"4 pipe 2/0 0 0 <0 <99 <7\n" +
		"5 pipe 3/3 2 0\n" +
		"6 gate 1/2 0 99 >8\n" +
		"7 run 3/1 0 99 - 2.2-w- 6.0-w- 7.0rw-\n" +
		"8 page 1/0 0 0\n"
	if got := impl.TableText(wide()); got != want {
		t.Errorf("the text is\n%swant\n%s", got, want)
	}
	cases := []struct {
		table []impl.Thing
		text  string
	}{
		{[]impl.Thing{page(0, 0)}, "1 page 0/0 0 0\n"},
		{[]impl.Thing{node(0)}, "1 node 0/0 0 0 - - - -\n"},
		{[]impl.Thing{run(-1)}, "1 run 0/0 0 -1 - - - -\n"},
		{[]impl.Thing{pipe(1)}, "1 pipe 0/0 1 0\n"},
		{[]impl.Thing{pipe(0, 12)}, "1 pipe 0/0 0 0 <12\n"},
		{[]impl.Thing{gate(3, 2), page(7, 1)}, "1 gate 0/0 0 3 >2\n2 page 0/0 1 7\n"},
	}
	for _, c := range cases {
		if got := impl.TableText(c.table); got != c.text {
			t.Errorf("the text is %q, want %q", got, c.text)
		}
	}
}

func TestP24OneLinePerObject(t *testing.T) {
	for _, table := range someTables() {
		text := impl.TableText(table)
		if text != wantText(table) {
			t.Errorf("the text is\n%swant\n%s", text, wantText(table))
		}
		if strings.Count(text, "\n") != len(table) || !strings.HasSuffix(text, "\n") {
			t.Errorf("%d objects have the lines\n%s", len(table), text)
		}
	}
}

// neighbours has the tables that differ from this one in one field of one object.
func neighbours(table []impl.Thing) [][]impl.Thing {
	var out [][]impl.Thing
	add := func(i int, change func(thing *impl.Thing)) {
		other := with(table, i, change)
		if impl.TableOk(other) && !sameTable(other, table) {
			out = append(out, other)
		}
	}
	for i, thing := range table {
		for _, n := range []int{-4, -3, -2, -1, 0, 1, 2, 3, 4, 5, 6, 7, 8, 9, 10, 11, 98, 99} {
			add(i, func(x *impl.Thing) { x.Kind = n })
			add(i, func(x *impl.Thing) { x.Vers = n })
			add(i, func(x *impl.Thing) { x.Num = n })
			add(i, func(x *impl.Thing) { x.To = n })
			add(i, func(x *impl.Thing) { x.Queue = append(x.Queue, n) })
			for place := range thing.Queue {
				add(i, func(x *impl.Thing) { x.Queue[place] = n })
			}
		}
		for _, l := range allLabels() {
			add(i, func(x *impl.Thing) { x.Label = l })
		}
		for slot := range thing.Slots {
			for _, r := range allRights() {
				add(i, func(x *impl.Thing) { x.Slots[slot] = r })
			}
		}
		for place := range thing.Queue {
			add(i, func(x *impl.Thing) { x.Queue = slices.Delete(x.Queue, place, place+1) })
		}
	}
	for size := 1; size < len(table); size++ {
		if impl.TableOk(table[:size]) {
			out = append(out, copyTable(table[:size]))
		}
	}
	return out
}

func TestP24TextsDiffer(t *testing.T) {
	known := map[string][]impl.Thing{}
	add := func(table []impl.Thing) {
		text := impl.TableText(table)
		if other, ok := known[text]; ok && !sameTable(table, other) {
			t.Errorf("%v and %v have the same text %q", table, other, text)
		}
		known[text] = table
		if text == "" {
			t.Errorf("%v has the text of what is not a table", table)
		}
	}
	for _, table := range someTables() {
		add(table)
		for _, other := range neighbours(table) {
			add(other)
		}
	}
	if len(known) < 20000 {
		t.Errorf("only %d tables were tried", len(known))
	}
}

func TestP24NoTableHasNoText(t *testing.T) {
	for what, table := range badTables() {
		if got := impl.TableText(table); got != "" {
			t.Errorf("%s: TableText(%v) = %q, want an empty string", what, table, got)
		}
	}
}

func TestP25LiveByFields(t *testing.T) {
	for _, table := range someTables() {
		live := 0
		for _, r := range allRights() {
			want := r != noRight && r.Thing <= len(table) && r.Vers == table[r.Thing-1].Vers
			if impl.TableLive(table, r) != want {
				t.Errorf("TableLive(%v, %v) is not %v", table, r, want)
			}
			if impl.TableLive(table, r) {
				live++
			}
		}
		if live != 6*len(table) { // each object is live in one version, with each set of letters
			t.Errorf("%d rights are live in %v", live, table)
		}
	}
}

func TestP25Examples(t *testing.T) {
	table := []impl.Thing{page(0, 3), run(0, right(1, 2, "rw-"), right(1, 3, "r--")), gate(0, 1)}
	cases := []struct {
		what string
		r    impl.Right
		want bool
	}{
		{"null", noRight, false},
		{"current", right(1, 3, "rw-"), true},
		{"current and permits nothing", right(1, 3, "---"), true},
		{"current and weak", right(1, 3, "r-k"), true},
		{"earlier", right(1, 2, "rw-"), false},
		{"first", right(1, 0, "rw-"), false},
		{"later", right(1, 4, "rw-"), false},
		{"last", right(1, 5, "rw-"), false},
		{"to a process", right(2, 0, "r--"), true},
		{"to a version of a process that there is not", right(2, 1, "r--"), false},
		{"to a gate", right(3, 0, "-w-"), true},
		{"to no object", right(4, 0, "rw-"), false},
		{"to the last possible object", right(8, 0, "rw-"), false},
		{"invalid, weak and writable", right(1, 3, "rwk"), false},
		{"invalid, to object 9", right(9, 0, "r--"), false},
		{"invalid, to object 0", right(0, 0, "r--"), false},
		{"invalid, to object -1", right(-1, 0, "r--"), false},
		{"invalid, version 6", right(1, 6, "r--"), false},
		{"invalid, version -1", right(1, -1, "r--"), false},
		{"invalid, greatest", right(math.MaxInt, math.MaxInt, "r--"), false},
		{"invalid, least", right(math.MinInt, math.MinInt, "r--"), false},
	}
	for _, c := range cases {
		if impl.TableLive(table, c.r) != c.want {
			t.Errorf("%s: TableLive with %v is not %v", c.what, c.r, c.want)
		}
	}
}

func TestP25InvalidRightIsNotLive(t *testing.T) {
	for _, table := range [][]impl.Thing{wide(), filled([]int{1}), filled([]int{1, 2, 3, 4, 5})} {
		for _, r := range invalidRights() {
			if impl.TableLive(table, r) {
				t.Errorf("the invalid %v is live in %v", r, table)
			}
		}
	}
}

func TestP25NothingIsLiveInNoTable(t *testing.T) {
	for what, table := range badTables() {
		for _, r := range append(allRights(), right(0, 1, "---"), right(9, 0, "r--"), right(1, 5, "rwk")) {
			if impl.TableLive(table, r) {
				t.Errorf("%s: %v is live in %v", what, r, table)
			}
		}
	}
}

func TestP26AppendNew(t *testing.T) {
	for _, table := range someTables() {
		for _, kind := range []int{1, 2, 3, 4} {
			for _, l := range allLabels() {
				thing, ok := impl.ThingNew(kind, l, 0)
				longer := append(copyTable(table), thing)
				if !ok || impl.TableOk(longer) != (len(table) < 8) {
					t.Errorf("TableOk is %v with a new object of kind %d and %v behind %v", impl.TableOk(longer), kind, l, table)
				}
			}
		}
	}
}

func TestP26AppendGate(t *testing.T) {
	for _, table := range someTables() {
		for to := 1; to <= 8; to++ {
			for _, l := range allLabels() {
				thing, ok := impl.ThingNew(impl.KindGate, l, to)
				longer := append(copyTable(table), thing)
				want := len(table) < 8 && to <= len(table) && table[to-1].Kind == 1
				if !ok || impl.TableOk(longer) != want {
					t.Errorf("TableOk is not %v with a new gate to %d behind %v", want, to, table)
				}
			}
		}
	}
}

func TestP26FromOneToEight(t *testing.T) {
	for _, s := range shapes[:4] {
		var table []impl.Thing
		for size := 1; size <= 10; size++ {
			thing, ok := impl.ThingNew(s.kind, label(size%4, 2), 0)
			table = append(table, thing)
			if !ok || impl.TableOk(table) != (size <= 8) {
				t.Errorf("TableOk is %v with %d new objects of kind %s", impl.TableOk(table), size, s.name)
			}
		}
	}
}

func TestP26AppendInvalid(t *testing.T) {
	table := filled([]int{1, 2, 3})
	for _, c := range [][2]int{{0, 0}, {6, 0}, {1, 1}, {2, 1}, {3, 1}, {4, 1}, {5, 0}, {5, 9}} {
		thing, ok := impl.ThingNew(c[0], label(0, 0), c[1])
		if ok || impl.TableOk(append(copyTable(table), thing)) {
			t.Errorf("an object of kind %d with target %d can be appended", c[0], c[1])
		}
	}
}

func TestP27AppendProcess(t *testing.T) {
	for _, table := range someTables() {
		for _, l := range allLabels() {
			before := copyTable(table)
			process, ok := impl.ThingNew(impl.KindRun, l, 0)
			longer := append(copyTable(table), process)
			if !ok || !sameTable(table, before) || !sameTable(longer[:len(table)], before) {
				t.Fatalf("appending a process changes %v to %v", before, longer)
			}
			if len(longer) > 8 {
				if impl.TableOk(longer) || impl.TableText(longer) != "" {
					t.Errorf("a ninth object makes a table")
				}
				continue
			}
			line := fmt.Sprintf("%d run %s 0 0 - - - -\n", len(longer), impl.LabelText(l))
			if got := impl.TableText(longer); got != impl.TableText(table)+line {
				t.Errorf("appending a process makes\n%sof\n%s", got, impl.TableText(table))
			}
			if len(process.Slots) != 4 {
				t.Errorf("a new process has %d rights", len(process.Slots))
			}
			for _, r := range process.Slots {
				if impl.TableLive(longer, r) {
					t.Errorf("the right %v of a new process is live", r)
				}
			}
		}
	}
}

// TestP27OthersStayLive holds that a new process makes no other right live, and none dead.
func TestP27OthersStayLive(t *testing.T) {
	for _, table := range someTables() {
		if len(table) == 8 {
			continue
		}
		process, _ := impl.ThingNew(impl.KindRun, label(3, 0), 0)
		longer := append(copyTable(table), process)
		for _, r := range allRights() {
			want := impl.TableLive(table, r) || r.Thing == len(longer) && r.Vers == 0
			if impl.TableLive(longer, r) != want {
				t.Errorf("TableLive of %v with a new process behind %v is not %v", r, table, want)
			}
		}
		for _, thing := range table {
			for _, r := range thing.Slots {
				if impl.TableLive(longer, r) != impl.TableLive(table, r) {
					t.Errorf("a new process changes whether %v is live in %v", r, table)
				}
			}
		}
	}
}

func TestP27InvalidProcess(t *testing.T) {
	table := filled([]int{1, 3})
	for _, l := range invalidLabels() {
		process, ok := impl.ThingNew(impl.KindRun, l, 0)
		if ok || len(process.Slots) != 0 || impl.TableOk(append(copyTable(table), process)) {
			t.Errorf("a process with the label %v can be appended: %v", l, process)
		}
	}
	for _, to := range manyNumbers() {
		if process, ok := impl.ThingNew(impl.KindRun, label(0, 0), to); ok != (to == 0) || !ok && len(process.Slots) != 0 {
			t.Errorf("a new process with the target %d is %v, %v", to, process, ok)
		}
	}
}

// roomy is a copy of the table in which each slice has room behind its end, with what would not be valid there.
func roomy(table []impl.Thing) []impl.Thing {
	out := append(copyTable(table), impl.Thing{Kind: 7}, impl.Thing{Kind: 8})[:len(table)]
	for i := range out {
		slots, queue := len(out[i].Slots), len(out[i].Queue)
		out[i].Slots = append(out[i].Slots, right(9, 9, "rwk"), right(8, 5, "rw-"))[:slots]
		out[i].Queue = append(out[i].Queue, 101, 102)[:queue]
	}
	return out
}

// whole is a copy of all that can be reached from a table, also behind the ends of slices.
func whole(table []impl.Thing) []impl.Thing {
	out := slices.Clone(table[:cap(table)])
	for i, thing := range out {
		out[i].Slots = slices.Clone(thing.Slots[:cap(thing.Slots)])
		out[i].Queue = slices.Clone(thing.Queue[:cap(thing.Queue)])
	}
	return out
}

func everyTable() [][]impl.Thing {
	out := someTables()
	for _, table := range badTables() {
		out = append(out, table)
	}
	return out
}

// TestP23ArgumentsStay holds that no function changes its arguments, nor minds what is behind the ends of slices.
func TestP23ArgumentsStay(t *testing.T) {
	for _, plain := range everyTable() {
		table := roomy(plain)
		before := whole(table)
		if impl.TableOk(table) != impl.TableOk(plain) || impl.TableText(table) != impl.TableText(plain) {
			t.Errorf("what is behind the ends of slices changes the result for %v", plain)
		}
		for thing := range 10 {
			r := right(thing, thing%3, "r--")
			if impl.TableLive(table, r) != impl.TableLive(plain, r) {
				t.Errorf("what is behind the ends of slices changes whether %v is live in %v", r, plain)
			}
		}
		for i := range table {
			if impl.ThingOk(table[i]) != impl.ThingOk(plain[i]) {
				t.Errorf("what is behind the ends of slices changes whether %v is valid", plain[i])
			}
		}
		if after := whole(table); !reflect.DeepEqual(after, before) {
			t.Errorf("the argument is changed from %v to %v", before, after)
		}
	}
}

// TestP23NilIsEmpty holds that a nil slice and an empty one count as the same in a table.
func TestP23NilIsEmpty(t *testing.T) {
	for _, plain := range everyTable() {
		one, other := copyTable(plain), copyTable(plain)
		for i, thing := range plain {
			if len(thing.Slots) == 0 {
				one[i].Slots, other[i].Slots = nil, []impl.Right{}
			}
			if len(thing.Queue) == 0 {
				one[i].Queue, other[i].Queue = nil, []int{}
			}
		}
		if impl.TableOk(one) != impl.TableOk(other) || impl.TableText(one) != impl.TableText(other) {
			t.Errorf("nil and empty slices are not the same in %v", plain)
		}
		for _, r := range allRights() {
			if impl.TableLive(one, r) != impl.TableLive(other, r) {
				t.Errorf("whether %v is live depends on nil slices in %v", r, plain)
			}
		}
	}
	for _, empty := range [][]impl.Thing{nil, {}} {
		if impl.TableOk(empty) || impl.TableText(empty) != "" || impl.TableLive(empty, noRight) || impl.TableLive(empty, right(1, 0, "r--")) {
			t.Errorf("%#v counts as a table", empty)
		}
	}
}
