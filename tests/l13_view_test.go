package tests

import (
	"fmt"
	"math"
	"reflect"
	"slices"
	"sync"
	"testing"

	"loop.example/drawbar/impl"
)

// The lowest and the highest label.
var (
	lowest  = label(0, 3)
	highest = label(3, 0)
)

// wantView is what the document says of a table and a valid label.
func wantView(table []impl.Thing, observer impl.Label) []impl.Thing {
	var out []impl.Thing
	for _, thing := range table {
		if !flows(thing.Label, observer) {
			empty := shapes[thing.Kind-1].plain()
			empty.Label, empty.To = thing.Label, thing.To
			thing = empty
		}
		out = append(out, copyThing(thing))
	}
	return out
}

// palettes has labels to be given to the objects of a table in turn.
var palettes = [][]impl.Label{
	{label(0, 0), label(1, 0)},
	{label(0, 2), label(0, 0)},
	{label(1, 3), label(2, 3), label(3, 3)},
	{label(0, 3), label(1, 2), label(3, 0)},
	{label(3, 1), label(0, 1), label(2, 1), label(2, 2), label(1, 1)},
}

// yard has two processes with rights that serve, most of them, and objects that are not empty; which labels and rights they have depends on the turn.
func yard(labels []impl.Label, turn int) []impl.Thing {
	table := []impl.Thing{page(42, 2), pipe(3, 9), node(1), gate(3, 1), page(7, 5), run(20), pipe(5, 1, 2, 3), run(21)}
	for i := range table {
		table[i].Label = labels[(i*(turn%2+1)+turn/2)%len(labels)]
		for slot := range table[i].Slots {
			to := (3*turn + 5*i + slot) % 8
			vers := table[to].Vers - (turn+i+2*slot)%6/5
			table[i].Slots[slot] = right(to+1, max(vers, 0), []string{"rw-", "rw-", "rw-", "-w-", "rw-", "r-k"}[(turn+i+slot)%6])
		}
	}
	return table
}

func yards() [][]impl.Thing {
	var out [][]impl.Thing
	for _, labels := range palettes {
		for turn := range 8 {
			out = append(out, yard(labels, turn))
		}
	}
	return out
}

// viewTables has tables of one to eight objects, with labels of all sorts and with one label.
func viewTables() [][]impl.Thing {
	out := append(yards(), companies()...)
	for _, table := range someTables() {
		out = append(out, table, alike(table))
	}
	return out
}

// eachView goes through tables and all observers.
func eachView(check func(table []impl.Thing, observer impl.Label)) {
	for _, table := range viewTables() {
		for _, observer := range allLabels() {
			check(table, observer)
		}
	}
}

// treasury has an object of each kind with a secret, and before it one without; none of them is empty.
func treasury() []impl.Thing {
	table := []impl.Thing{
		page(11, 1), page(99, 5),
		node(2, right(2, 5, "rw-"), right(3, 2, "r-k"), noRight, right(7, 0, "---")),
		node(4, right(4, 4, "-w-"), noRight, right(1, 0, "r--"), right(8, 0, "rw-")),
		run(33, right(2, 4, "rw-"), right(4, 4, "r--"), right(6, 3, "-w-"), right(8, 0, "-w-")),
		pipe(3, 7, 0, 99),
		run(-4, right(1, 1, "rw-"), noRight, right(5, 0, "--k"), right(7, 0, "rw-")),
		gate(98, 1),
	}
	for _, i := range []int{1, 3, 5, 6, 7} {
		table[i].Label = label(1, 0)
	}
	return table
}

// disguises has tables that differ from this one only in what the observer does not see: first in one object, and in the last one in all of them.
func disguises(table []impl.Thing, observer impl.Label) [][]impl.Thing {
	var out [][]impl.Thing
	all := copyTable(table)
	for i, thing := range table {
		if flows(thing.Label, observer) {
			continue
		}
		for _, other := range contents(thing) {
			disguised := with(table, i, func(x *impl.Thing) { *x = copyThing(other) })
			if impl.TableOk(disguised) && !sameThing(other, thing) {
				out = append(out, disguised)
				all[i] = copyThing(other)
			}
		}
	}
	if !impl.TableOk(all) {
		panic(fmt.Sprintf("%v is not a table", all))
	}
	if len(out) == 0 {
		return nil
	}
	return append(out, all)
}

func TestP68AllViews(t *testing.T) {
	seen, hidden := map[int]int{}, map[int]int{}
	eachView(func(table []impl.Thing, observer impl.Label) {
		for _, thing := range table {
			if flows(thing.Label, observer) {
				seen[thing.Kind]++
			} else {
				hidden[thing.Kind]++
			}
		}
		if got, want := impl.ViewOf(table, observer), wantView(table, observer); !sameTable(got, want) {
			t.Errorf("%v sees %v as\n%v, want\n%v", observer, table, got, want)
		}
	})
	for _, shape := range shapes {
		if seen[shape.kind] < 500 || hidden[shape.kind] < 500 {
			t.Errorf("a %s is seen %d times and hidden %d times", shape.name, seen[shape.kind], hidden[shape.kind])
		}
	}
}

// TestP68EachPairOfLabels has an object of each kind, with something in it, at each label for each observer.
func TestP68EachPairOfLabels(t *testing.T) {
	for _, shape := range shapes {
		plain := scene{kind: shape.kind}.table()
		for _, object := range contents(plain[sceneObject-1]) {
			eachPair(func(observer, of impl.Label) {
				table := with(plain, sceneObject-1, func(x *impl.Thing) { *x = copyThing(object) })
				table[sceneObject-1].Label = of
				want := copyThing(table[sceneObject-1])
				if !flows(of, observer) {
					want = impl.Thing{Kind: object.Kind, Label: of, To: object.To}
					if shape.rights > 0 {
						want.Slots = make([]impl.Right, 4)
					}
				}
				got := impl.ViewOf(table, observer)
				if len(got) != 3 || !sameThing(got[sceneObject-1], want) {
					t.Errorf("%v sees %v as %v, want %v", observer, table[sceneObject-1], got, want)
				}
			})
		}
	}
}

func TestP68Examples(t *testing.T) {
	table := treasury()
	public := func() []impl.Thing {
		return []impl.Thing{
			table[0], {Kind: 1, Label: label(1, 0)},
			table[2], {Kind: 2, Label: label(1, 0), Slots: make([]impl.Right, 4)},
			table[4], {Kind: 4, Label: label(1, 0)},
			{Kind: 3, Label: label(1, 0), Slots: make([]impl.Right, 4)},
			{Kind: 5, Label: label(1, 0), To: 1},
		}
	}
	nothing := public()
	nothing[0], nothing[2], nothing[4] = impl.Thing{Kind: 1}, impl.Thing{Kind: 2, Slots: make([]impl.Right, 4)}, impl.Thing{Kind: 3, Slots: make([]impl.Right, 4)}
	cases := []struct {
		what     string
		observer impl.Label
		want     []impl.Thing
	}{
		{"the label of what has no secret", label(0, 0), public()},
		{"another secret", label(2, 0), public()},
		{"the label of what has the secret", label(1, 0), table},
		{"the highest label", highest, table},
		{"the lowest label", lowest, nothing},
		{"the secret, but vouched for", label(1, 1), nothing},
		{"all secrets, but vouched for", label(3, 3), nothing},
		{"vouched for", label(0, 2), nothing},
	}
	for _, c := range cases {
		if got := impl.ViewOf(table, c.observer); !sameTable(got, c.want) {
			t.Errorf("%s: %v sees\n%v, want\n%v", c.what, c.observer, got, c.want)
		}
	}
}

// TestP68RightsToHidden holds that what is seen keeps its rights to hidden objects, although a view with such a right need not be a table.
func TestP68RightsToHidden(t *testing.T) {
	views := map[bool]int{}
	for vers := range 6 {
		for was := range vers + 1 {
			for _, letters := range rightLetters {
				for _, hidden := range renewable(vers) {
					hidden.Label = label(2, 0)
					table := []impl.Thing{hidden, run(9, right(1, was, letters), right(3, 0, letters)), node(0, noRight, right(1, was, letters))}
					got := impl.ViewOf(table, label(1, 0))
					if len(got) != 3 || !sameTable(got[1:], table[1:]) || got[0].Vers != 0 {
						t.Errorf("rights to version %d of %v are seen as %v", was, hidden, got)
					}
					views[impl.TableOk(got)]++
					if impl.TableOk(got) != (was == 0) {
						t.Errorf("%v is a table: %v", got, impl.TableOk(got))
					}
				}
			}
		}
	}
	if views[true] < 50 || views[false] < 50 {
		t.Errorf("of the views, tables are %v", views)
	}
}

func TestP68NoTable(t *testing.T) {
	for what, table := range badTables() {
		for _, observer := range allLabels() {
			if got := impl.ViewOf(table, observer); len(got) != 0 {
				t.Errorf("%s: %v sees %v", what, observer, got)
			}
		}
	}
	for _, shape := range shapes {
		for what, table := range spoiled(scene{shape.kind, seesBoth[0], seesBoth[1], "rw-", false}.table()) {
			for _, observer := range []impl.Label{lowest, seesBoth[0], highest} {
				if got := impl.ViewOf(table, observer); len(got) != 0 {
					t.Errorf("%s: %v sees %v", what, observer, got)
				}
			}
		}
	}
}

func TestP68InvalidLabel(t *testing.T) {
	tables := append(yards(), wide(), treasury(), []impl.Thing{page(1, 1)}, []impl.Thing{run(1)})
	for _, observer := range invalidLabels() {
		for _, table := range tables {
			if got := impl.ViewOf(table, observer); len(got) != 0 {
				t.Errorf("%v sees %v", observer, got)
			}
		}
		for what, table := range badTables() {
			if got := impl.ViewOf(table, observer); len(got) != 0 {
				t.Errorf("%s: %v sees %v", what, observer, got)
			}
		}
	}
}

func TestP69HighestSeesAll(t *testing.T) {
	for _, table := range append(viewTables(), treasury()) {
		if got := impl.ViewOf(table, highest); !sameTable(got, table) {
			t.Errorf("the highest label sees %v as %v", table, got)
		}
		for number := range table {
			if impl.ViewHigh(table, number+1, highest) {
				t.Errorf("the highest label does not see object %d of %v", number+1, table)
			}
		}
	}
}

// TestP69LowestSeesItsOwn holds that an observer with the lowest label sees what has this label, and nothing else.
func TestP69LowestSeesItsOwn(t *testing.T) {
	for _, of := range allLabels() {
		for _, shape := range shapes {
			table := scene{shape.kind, of, of, "rw-", false}.table()
			same := sameTable(impl.ViewOf(table, lowest), table)
			if same != (of == lowest) {
				t.Errorf("the lowest label sees all of %v: %v", table, same)
			}
		}
	}
}

// TestP69NoMoreThanHigher holds that an observer to whom another one's information may flow sees all that this one sees.
func TestP69NoMoreThanHigher(t *testing.T) {
	tables := append(yards(), companies()...)
	more := 0
	for _, table := range append(tables, treasury()) {
		eachPair(func(low, high impl.Label) {
			if !flows(low, high) {
				return
			}
			seen, above := impl.ViewOf(table, low), impl.ViewOf(table, high)
			if len(seen) != len(table) || len(above) != len(table) {
				t.Fatalf("%v has the views %v and %v", table, seen, above)
			}
			for i := range table {
				if impl.ViewHigh(table, i+1, high) && !impl.ViewHigh(table, i+1, low) {
					t.Errorf("%v sees object %d of %v, but %v does not", low, i+1, table, high)
				}
				// What the lower one sees is the empty object, or what the higher one sees.
				empty, _ := impl.ThingNew(table[i].Kind, table[i].Label, table[i].To)
				if !sameThing(seen[i], above[i]) {
					more++
					if !sameThing(seen[i], empty) {
						t.Errorf("%v sees object %d as %v, but %v as %v", low, i+1, seen[i], high, above[i])
					}
				}
			}
		})
	}
	if more < 1000 {
		t.Errorf("the higher one sees more of only %d objects", more)
	}
}

// TestP69ViewOfView holds that nothing more is seen, nor less, by way of a higher observer's view.
func TestP69ViewOfView(t *testing.T) {
	views := 0
	for _, table := range viewTables() {
		eachPair(func(low, high impl.Label) {
			above := impl.ViewOf(table, high)
			if !flows(low, high) || !impl.TableOk(above) {
				return
			}
			views++
			if got, want := impl.ViewOf(above, low), impl.ViewOf(table, low); !sameTable(got, want) || !sameTable(impl.ViewOf(above, high), above) {
				t.Errorf("%v sees %v by way of %v as %v, want %v", low, table, high, got, want)
			}
		})
	}
	if views < 5000 {
		t.Errorf("only %d views are tables", views)
	}
}

// checkSame checks ViewSame of two tables, both ways.
func checkSame(t *testing.T, a, b []impl.Thing, observer impl.Label) bool {
	t.Helper()
	want := sameTable(wantView(a, observer), wantView(b, observer))
	if got := impl.ViewSame(a, b, observer); got != want {
		t.Errorf("to %v, %v\nand %v\nlook the same: %v", observer, a, b, got)
	}
	if got := impl.ViewSame(b, a, observer); got != want {
		t.Errorf("to %v, %v\nand %v\nlook the same: %v", observer, b, a, got)
	}
	if views := sameTable(impl.ViewOf(a, observer), impl.ViewOf(b, observer)); views != want {
		t.Errorf("to %v, the views of %v\nand %v\nare the same: %v", observer, a, b, views)
	}
	return want
}

func TestP70Reflexive(t *testing.T) {
	eachView(func(table []impl.Thing, observer impl.Label) {
		if !impl.ViewSame(table, table, observer) || !impl.ViewSame(table, copyTable(table), observer) {
			t.Errorf("%v does not look the same to %v as itself", table, observer)
		}
	})
}

// TestP70OneFieldApart has tables that differ in one field of one object, or in their number of objects.
func TestP70OneFieldApart(t *testing.T) {
	counts := map[bool]int{}
	for _, table := range [][]impl.Thing{wide(), treasury(), yard(palettes[0], 2), yard(palettes[3], 5)} {
		for i, other := range neighbours(table) {
			for j, observer := range allLabels() {
				if (i+j)%9 == 0 {
					counts[checkSame(t, table, other, observer)]++
				}
			}
		}
	}
	if counts[true] < 1000 || counts[false] < 1000 {
		t.Errorf("of the tables, the same are %v", counts)
	}
}

// TestP70AnyTwo has tables that differ in all respects.
func TestP70AnyTwo(t *testing.T) {
	tables := append(yards(), companies()...)
	for n := 1; n <= 8; n++ {
		tables = append(tables, filled(slices.Repeat([]int{1, 3, 2, 4}, 2)[:n]), slices.Repeat([]impl.Thing{page(n%2, 0)}, n))
	}
	for i, a := range tables {
		for j, b := range tables {
			checkSame(t, a, b, allLabels()[(i+3*j)%16])
			checkSame(t, a, b, lowest)
		}
	}
}

func TestP70Examples(t *testing.T) {
	// Object 2, a page, and objects 4 and 6 to 8 have a secret.
	table := treasury()
	change := func(i int, change func(x *impl.Thing)) []impl.Thing { return with(table, i-1, change) }
	cases := []struct {
		what        string
		other       []impl.Thing
		low, secret bool // whether they look the same without the secret, and with it
	}{
		{"nothing", copyTable(table), true, true},
		{"the number of a hidden page", change(2, func(x *impl.Thing) { x.Num = 98 }), true, false},
		{"the number of a seen page", change(1, func(x *impl.Thing) { x.Num = 98 }), false, false},
		{"the version of a seen page", change(1, func(x *impl.Thing) { x.Vers = 2 }), false, false},
		{"the version of a hidden node", change(4, func(x *impl.Thing) { x.Vers = 5 }), true, false},
		{"a right of a hidden node", change(4, func(x *impl.Thing) { x.Slots[1] = right(1, 0, "r-k") }), true, false},
		{"the version of a right of a hidden node", change(4, func(x *impl.Thing) { x.Slots[0].Vers = 3 }), true, false},
		{"a right of a seen node", change(3, func(x *impl.Thing) { x.Slots[2] = right(1, 0, "r-k") }), false, false},
		{"the letters of a seen right to a hidden page", change(3, func(x *impl.Thing) { x.Slots[0].Write = false }), false, false},
		{"the version of a seen right to a hidden page", change(3, func(x *impl.Thing) { x.Slots[0].Vers = 4 }), false, false},
		{"a right of a seen process", change(5, func(x *impl.Thing) { x.Slots[3] = noRight }), false, false},
		{"the result of a seen process", change(5, func(x *impl.Thing) { x.Num = 34 }), false, false},
		{"the queue of a hidden pipe", change(6, func(x *impl.Thing) { x.Queue[2] = 98 }), true, false},
		{"the length of the queue of a hidden pipe", change(6, func(x *impl.Thing) { x.Queue = nil }), true, false},
		{"the version of a hidden pipe", change(6, func(x *impl.Thing) { x.Vers = 4 }), true, false},
		{"the result of a hidden process", change(7, func(x *impl.Thing) { x.Num = 0 }), true, false},
		{"a right of a hidden process", change(7, func(x *impl.Thing) { x.Slots[0] = noRight }), true, false},
		{"the count of a hidden gate", change(8, func(x *impl.Thing) { x.Num = 99 }), true, false},
		{"the target of a hidden gate", change(8, func(x *impl.Thing) { x.To = 2 }), false, false},
		{"the label of a hidden page", change(2, func(x *impl.Thing) { x.Label = label(2, 0) }), false, false},
		{"the label of a hidden gate", change(8, func(x *impl.Thing) { x.Label = label(3, 0) }), false, false},
		{"the label of a seen page, still seen", change(1, func(x *impl.Thing) { x.Label = label(0, 1) }), false, false},
		{"the label of a seen page, now hidden", change(1, func(x *impl.Thing) { x.Label = label(1, 0) }), false, false},
		{"the kind of a hidden page", change(2, func(x *impl.Thing) { *x = pipe(5, 1); x.Label = label(1, 0) }), false, false},
		{"the kind of a hidden process", change(7, func(x *impl.Thing) { x.Kind, x.Num = 2, 0 }), false, false},
	}
	for _, c := range cases {
		if !impl.TableOk(c.other) {
			t.Fatalf("%s: %v is not a table", c.what, c.other)
		}
		for observer, want := range map[impl.Label]bool{label(0, 0): c.low, label(2, 0): c.low, label(1, 0): c.secret, highest: c.secret} {
			if impl.ViewSame(table, c.other, observer) != want || impl.ViewSame(c.other, table, observer) != want {
				t.Errorf("%s differs: to %v the tables do not look the same: %v", c.what, observer, want)
			}
		}
	}
}

// TestP70NumberOfObjects has tables of which one has more objects, which are hidden and empty, at the end.
func TestP70NumberOfObjects(t *testing.T) {
	for size := 1; size <= 8; size++ {
		for more := size + 1; more <= 8; more++ {
			for _, shape := range shapes {
				last := shape.plain()
				last.Label = label(1, 0)
				longer := append(slices.Repeat([]impl.Thing{page(5, 1)}, size), slices.Repeat([]impl.Thing{last}, more-size)...)
				for _, observer := range []impl.Label{lowest, label(0, 0), label(1, 0), highest} {
					if checkSame(t, longer[:size], longer, observer) {
						t.Errorf("to %v %d objects look the same as %d", observer, size, more)
					}
				}
			}
		}
	}
}

// TestP70ViewsThatAreNoTables has views with a right to a later version of a hidden object than the one that is shown, which differ nevertheless.
func TestP70ViewsThatAreNoTables(t *testing.T) {
	hidden := page(5, 3)
	hidden.Label = label(1, 0)
	table := func(num int, r impl.Right) []impl.Thing { return []impl.Thing{hidden, run(num, r), page(num, 0)} }
	first := table(1, right(1, 3, "rw-"))
	if impl.TableOk(impl.ViewOf(first, label(0, 0))) {
		t.Fatal("the view is a table")
	}
	for _, other := range [][]impl.Thing{table(2, right(1, 3, "rw-")), table(1, right(1, 2, "rw-")), table(1, right(1, 3, "r--"))} {
		if checkSame(t, first, other, label(0, 0)) {
			t.Errorf("%v and %v look the same", first, other)
		}
	}
	if !checkSame(t, first, with(first, 0, func(x *impl.Thing) { x.Vers, x.Num = 5, 9 }), label(0, 0)) {
		t.Error("the hidden page is seen")
	}
}

func TestP70NoTable(t *testing.T) {
	bad := badTables()
	for what, table := range bad {
		for _, observer := range allLabels() {
			if impl.ViewSame(table, table, observer) || impl.ViewSame(table, copyTable(table), observer) {
				t.Errorf("%s: it looks the same to %v as itself", what, observer)
			}
			for _, other := range [][]impl.Thing{wide(), {page(0, 0)}, treasury(), nil, {}, bad["no kind"], bad["gate to itself"]} {
				if impl.ViewSame(table, other, observer) || impl.ViewSame(other, table, observer) {
					t.Errorf("%s: it looks the same to %v as %v", what, observer, other)
				}
			}
		}
	}
}

// TestP70SpoiledTable has lists of objects that are not a table, and differ from one only in what the observer does not see.
func TestP70SpoiledTable(t *testing.T) {
	table := treasury()
	spoilers := map[string][]impl.Thing{
		"the number of a hidden page":  with(table, 1, func(x *impl.Thing) { x.Num = 100 }),
		"the version of a hidden page": with(table, 1, func(x *impl.Thing) { x.Vers = 6 }),
		"the target of a hidden gate":  with(table, 7, func(x *impl.Thing) { x.To = 3 }),
		"the queue of a hidden pipe":   with(table, 5, func(x *impl.Thing) { x.Queue = []int{1, 2, 3, 4} }),
		"a right of a hidden node":     with(table, 3, func(x *impl.Thing) { x.Slots[0].Vers = 5 }),
		"a right of a hidden process":  with(table, 6, func(x *impl.Thing) { x.Slots[0] = right(1, 1, "rwk") }),
		"a hidden version, too early":  with(table, 1, func(x *impl.Thing) { x.Vers = 4 }),
	}
	for what, spoiled := range spoilers {
		if impl.TableOk(spoiled) {
			t.Fatalf("%s: %v is a table", what, spoiled)
		}
		for _, observer := range allLabels() {
			if impl.ViewSame(table, spoiled, observer) || impl.ViewSame(spoiled, table, observer) || impl.ViewSame(spoiled, spoiled, observer) {
				t.Errorf("%s: what is not a table looks the same to %v", what, observer)
			}
		}
	}
}

func TestP70InvalidLabel(t *testing.T) {
	tables := append(yards(), wide(), treasury(), []impl.Thing{page(1, 1)})
	for _, observer := range invalidLabels() {
		for _, table := range tables {
			if impl.ViewSame(table, table, observer) || impl.ViewSame(table, tables[0], observer) {
				t.Errorf("%v sees that %v looks the same", observer, table)
			}
		}
		for what, table := range badTables() {
			if impl.ViewSame(table, table, observer) || impl.ViewSame(table, wide(), observer) || impl.ViewSame(wide(), table, observer) {
				t.Errorf("%s: %v sees that it looks the same", what, observer)
			}
		}
	}
}

func TestP71HiddenObjects(t *testing.T) {
	counts := map[bool]int{}
	eachView(func(table []impl.Thing, observer impl.Label) {
		for number, thing := range table {
			want := !flows(thing.Label, observer)
			counts[want]++
			if impl.ViewHigh(table, number+1, observer) != want {
				t.Errorf("%v does not see object %d of %v: %v", observer, number+1, table, !want)
			}
		}
	})
	if counts[true] < 5000 || counts[false] < 5000 {
		t.Errorf("of the objects, hidden are %v", counts)
	}
}

// TestP71EachPairOfLabels has each kind at each label for each observer; that it sees a process does not mean that this one sees it.
func TestP71EachPairOfLabels(t *testing.T) {
	eachScene(func(s scene) {
		if s.letters != "" {
			return
		}
		table := s.table()
		if got, want := impl.ViewHigh(table, sceneObject, s.process), !s.sees(); got != want {
			t.Errorf("%v does not see the object of %+v: %v", s.process, s, got)
		}
		if impl.ViewHigh(table, sceneProcess, s.process) {
			t.Errorf("%v does not see the process of %+v", s.process, s)
		}
		if got, want := impl.ViewHigh(table, sceneProcess, s.object), !s.touches(); got != want {
			t.Errorf("%v does not see the process of %+v: %v", s.object, s, got)
		}
	})
}

func TestP71NoObject(t *testing.T) {
	for _, table := range append(yards(), wide(), treasury(), []impl.Thing{page(1, 1)}, []impl.Thing{run(1), pipe(0)}) {
		for _, number := range append(manyNumbers(), 0, len(table)+1, -1, math.MinInt, math.MaxInt) {
			if inside(number, [2]int{1, len(table)}) {
				continue
			}
			for _, observer := range allLabels() {
				if impl.ViewHigh(table, number, observer) {
					t.Errorf("%v does not see object %d of %d", observer, number, len(table))
				}
			}
		}
	}
}

func TestP71NoTable(t *testing.T) {
	for what, table := range badTables() {
		for _, observer := range allLabels() {
			for _, number := range []int{math.MinInt, -1, 0, 1, 2, 3, 4, 5, 6, 7, 8, 9, 10, math.MaxInt} {
				if impl.ViewHigh(table, number, observer) {
					t.Errorf("%s: %v does not see object %d", what, observer, number)
				}
			}
		}
	}
	for _, shape := range shapes {
		for what, table := range spoiled(scene{shape.kind, seesNeither[0], seesNeither[1], "rw-", false}.table()) {
			for number := range 10 {
				if impl.ViewHigh(table, number, seesNeither[0]) || impl.ViewHigh(table, number, lowest) {
					t.Errorf("%s: object %d is not seen", what, number)
				}
			}
		}
	}
}

func TestP71InvalidLabel(t *testing.T) {
	for _, observer := range invalidLabels() {
		for _, table := range [][]impl.Thing{wide(), treasury(), {page(0, 0)}, nil} {
			for number := range 10 {
				if impl.ViewHigh(table, number, observer) {
					t.Errorf("%v does not see object %d of %v", observer, number, table)
				}
			}
		}
	}
}

// looksSame says whether two tables look the same to an observer, by ViewSame and by ViewOf.
func looksSame(a, b []impl.Thing, observer impl.Label) bool {
	return impl.ViewSame(a, b, observer) && sameTable(impl.ViewOf(a, observer), impl.ViewOf(b, observer))
}

// eachTurn goes through calls of all kinds, through each slot, by the processes of yards, and by those of scenes with an object that suits the call.
func eachTurn(check func(p play)) {
	for i, table := range yards() {
		for _, number := range []int{6, 8} {
			for _, d := range demands {
				for a := range 4 {
					check(playOf(table, impl.Call{Kind: d.kind, Run: number, A: a, B: (a + i) % 4, N: (13*i + 5*a) % 100}))
				}
			}
		}
	}
	for _, labels := range [][2]impl.Label{seesOnly, touchesOnly, seesBoth, seesNeither} {
		for _, d := range demands {
			for _, kind := range append(d.objects, impl.KindPage) {
				plain := scene{kind, labels[0], labels[1], "rw-", false}.table()
				for _, object := range contents(plain[sceneObject-1]) {
					table := with(plain, sceneObject-1, func(x *impl.Thing) { *x = copyThing(object) })
					for _, r := range []impl.Right{right(sceneObject, object.Vers, "rw-"), right(sceneObject, 0, "rw-"), right(sceneObject, object.Vers, "--k"), noRight} {
						check(playOf(with(table, sceneProcess-1, func(x *impl.Thing) { x.Slots[sceneSlot] = r }), sceneCall(d.kind)))
					}
				}
			}
		}
	}
}

func TestP72HighCall(t *testing.T) {
	type outcome struct{ kind, answer int }
	outcomes := map[outcome]int{}
	eachTurn(func(p play) {
		if p.call.Kind == impl.CallGate {
			return
		}
		outcomes[outcome{p.call.Kind, min(p.answer, 0)}]++
		for _, observer := range allLabels() {
			if flows(p.before[p.call.Run-1].Label, observer) {
				continue
			}
			if !impl.ViewSame(p.before, p.after, observer) {
				t.Errorf("%vlooks different to %v, namely\n%s", p, observer, impl.TableText(p.after))
			}
		}
	})
	for kind := impl.CallRead; kind < impl.CallGate; kind++ {
		if outcomes[outcome{kind, 0}] < 20 || kind != impl.CallCopy && (outcomes[outcome{kind, -1}] < 20 || outcomes[outcome{kind, -2}] < 20 || outcomes[outcome{kind, -3}] < 10) {
			t.Errorf("the outcomes of %s are too few: %v", demands[kind-1].name, outcomes)
		}
	}
}

// TestP72AllLabels has each pair of labels, with each of the observers from whom the process is hidden.
func TestP72AllLabels(t *testing.T) {
	eachPair(func(process, object impl.Label) {
		for _, d := range demands {
			for _, kind := range d.objects {
				if d.kind == impl.CallGate {
					continue
				}
				table := scene{kind, process, object, "rw-", false}.table()
				after, _ := impl.CallDo(table, sceneCall(d.kind))
				for _, observer := range allLabels() {
					if !flows(process, observer) && !looksSame(table, after, observer) {
						t.Errorf("%s of a %s with %v by one with %v looks different to %v", d.name, shapes[kind-1].name, object, process, observer)
					}
				}
			}
		}
	})
}

// TestP72OnlyGatesShow holds that a high process does pass a bit by CallGate, and that each other call is seen by those who see its process.
func TestP72OnlyGatesShow(t *testing.T) {
	for n := range 4 {
		table := gateTable(seesBoth, lowest, 5, 66)
		after, answer := impl.CallDo(table, impl.Call{Kind: impl.CallGate, Run: 3, A: 3, N: n})
		if answer != 0 || impl.ViewSame(table, after, lowest) || impl.ViewOf(after, lowest)[3].Num != n%2 || impl.ViewOf(after, lowest)[1].Num != 0 {
			t.Errorf("%d through a gate is %d with %v", n, answer, after)
		}
	}
	for _, d := range demands {
		table := scene{impl.KindPage, seesBoth[0], seesBoth[1], "rw-", false}.table()
		after, _ := impl.CallDo(table, impl.Call{Kind: d.kind, Run: sceneProcess, A: sceneSlot, B: 1, N: 7})
		if impl.ViewSame(table, after, seesBoth[0]) || impl.ViewSame(table, after, highest) || !impl.ViewSame(table, after, lowest) {
			t.Errorf("%s is not seen by those who see its process, or by others", d.name)
		}
	}
}

// eachDisguise goes through pairs of tables that look the same to an observer.
func eachDisguise(check func(a, b []impl.Thing, observer impl.Label)) {
	for i, table := range yards() {
		for _, observer := range allLabels() {
			for j, other := range disguises(table, observer) {
				if (i+j)%9 == 0 {
					check(table, other, observer)
				}
			}
			if all := disguises(table, observer); all != nil {
				check(table, all[len(all)-1], observer)
			}
		}
	}
}

// eachHiddenScene goes through pairs of scenes that differ in an object that neither the process nor the observer sees, who sees the process.
func eachHiddenScene(check func(a, b []impl.Thing, observer impl.Label)) {
	for _, labels := range [][2]impl.Label{touchesOnly, seesNeither, {label(0, 0), label(3, 0)}, {lowest, highest}} {
		for _, shape := range shapes {
			for _, letters := range append([]string{""}, rightLetters...) {
				for _, gone := range []bool{false, letters != "" && shape.vers[1] > 0} {
					table := scene{shape.kind, labels[0], labels[1], letters, gone}.table()
					for i, observer := range allLabels() {
						if !flows(labels[0], observer) || flows(labels[1], observer) {
							continue
						}
						for j, other := range disguises(table, observer) {
							if (i+j)%3 == 0 || observer == labels[0] {
								check(table, other, observer)
							}
						}
					}
				}
			}
		}
	}
}

// eachLowPair goes through the calls of processes that the observer sees, in two tables that look the same to it.
func eachLowPair(check func(one, other play, observer impl.Label)) {
	eachDisguise(func(a, b []impl.Thing, observer impl.Label) {
		for _, number := range []int{6, 8} {
			if flows(a[number-1].Label, observer) {
				for i := range 36 {
					c := impl.Call{Kind: i/4 + 1, Run: number, A: i % 4, B: (i + number/4) % 4, N: 7 * i % 100}
					check(playOf(a, c), playOf(b, c), observer)
				}
			}
		}
	})
	eachHiddenScene(func(a, b []impl.Thing, observer impl.Label) {
		for _, d := range demands {
			check(playOf(a, sceneCall(d.kind)), playOf(b, sceneCall(d.kind)), observer)
		}
	})
}

func TestP73LowCall(t *testing.T) {
	passed, refused := map[int]int{}, map[int]int{}
	eachLowPair(func(one, other play, observer impl.Label) {
		if one.check == 0 {
			passed[one.call.Kind]++
		} else {
			refused[one.call.Kind]++
		}
		if one.answer != other.answer || !impl.ViewSame(one.after, other.after, observer) {
			t.Errorf("%vis %d, but %d in what looks the same to %v, namely\n%s", one, one.answer, other.answer, observer, impl.TableText(other.before))
		}
	})
	for _, d := range demands {
		if passed[d.kind] < 50 || refused[d.kind] < 50 && d.kind != impl.CallCopy {
			t.Errorf("%s passes %d times, and is refused %d times", d.name, passed[d.kind], refused[d.kind])
		}
	}
}

// TestP73PremiseHolds holds that the tables of which the other tests say that they look the same do so, and are not equal.
func TestP73PremiseHolds(t *testing.T) {
	pairs := 0
	check := func(a, b []impl.Thing, observer impl.Label) {
		pairs++
		if !looksSame(a, b, observer) || sameTable(a, b) || impl.ViewSame(a, b, highest) {
			t.Errorf("to %v, %v\nand %v do not look the same, or do so to all", observer, a, b)
		}
	}
	eachDisguise(check)
	eachHiddenScene(check)
	if pairs < 5000 {
		t.Errorf("only %d pairs of tables", pairs)
	}
}

// TestP73HiddenStates has calls whose outcome would tell of a hidden object: a queue that is full, a version that is the last, and one that is gone.
func TestP73HiddenStates(t *testing.T) {
	cases := []struct {
		what  string
		call  int
		one   impl.Thing
		other impl.Thing
	}{
		{"a full pipe and an empty one", impl.CallSend, pipe(0, 1, 2, 3), pipe(0)},
		{"a pipe that was renewed", impl.CallSend, pipe(0), pipe(1)},
		{"a page of the last version", impl.CallRenew, page(0, 0), page(0, 5)},
		{"a page that was renewed", impl.CallWrite, page(0, 0), page(0, 1)},
		{"a page with another number", impl.CallWrite, page(7, 0), page(8, 0)},
		{"a node that was renewed", impl.CallStore, node(0), node(4)},
		{"a node with a right", impl.CallStore, node(0), node(0, right(2, 0, "rw-"))},
		{"a node of the last version", impl.CallRenew, node(0), node(5)},
		{"a gate that was used", impl.CallGate, gate(0, 3), gate(99, 3)},
		{"a page to be read", impl.CallRead, page(0, 0), page(1, 1)},
		{"a pipe to take from", impl.CallTake, pipe(0, 1), pipe(0)},
		{"a node to fetch from", impl.CallFetch, node(0), node(0, right(2, 0, "r--"))},
	}
	for _, c := range cases {
		table := func(hidden impl.Thing) []impl.Thing {
			hidden = copyThing(hidden)
			hidden.Label = label(1, 0)
			return []impl.Thing{hidden, run(50, right(1, 0, "rw-"), right(3, 0, "rw-")), page(5, 0)}
		}
		one, other := table(c.one), table(c.other)
		if !looksSame(one, other, label(0, 0)) {
			t.Errorf("%s: it looks different", c.what)
		}
		call := impl.Call{Kind: c.call, Run: 2, A: 0, B: 1, N: 9}
		after, answer := impl.CallDo(one, call)
		afterwards, otherAnswer := impl.CallDo(other, call)
		if answer != otherAnswer || !looksSame(after, afterwards, label(0, 0)) {
			t.Errorf("%s: %s is %d with %v, or %d with %v", c.what, demands[c.call-1].name, answer, after, otherAnswer, afterwards)
		}
	}
}

// TestP74EachSlot goes through each slot of each low process with each kind of call.
func TestP74EachSlot(t *testing.T) {
	answers := map[int]int{}
	check := func(a, b []impl.Thing, observer impl.Label) {
		for number := range a {
			if a[number].Kind != 3 || !flows(a[number].Label, observer) {
				continue
			}
			for slot := range 4 {
				for _, d := range demands {
					c := impl.Call{Kind: d.kind, Run: number + 1, A: slot, B: slot, N: 3}
					_, answer := impl.CallDo(a, c)
					_, other := impl.CallDo(b, c)
					answers[min(answer, 1)]++
					if answer != other || impl.CheckCall(a, c) != impl.CheckCall(b, c) {
						t.Errorf("%+v is %d, but %d in what looks the same to %v:\n%sand\n%s", c, answer, other, observer, impl.TableText(a), impl.TableText(b))
					}
				}
			}
		}
	}
	eachDisguise(check)
	eachHiddenScene(check)
	for answer := -4; answer <= 1; answer++ {
		if answers[answer] < 20 {
			t.Errorf("only %d calls are %d", answers[answer], answer)
		}
	}
}

// TestP74ByWhatIsSeen holds the same of tables that differ in any one field that is not seen.
func TestP74ByWhatIsSeen(t *testing.T) {
	pairs := 0
	for _, table := range [][]impl.Thing{treasury(), yard(palettes[0], 3), yard(palettes[3], 4)} {
		for i, other := range neighbours(table) {
			for _, observer := range []impl.Label{allLabels()[i%16], label(0, 0)} {
				if !impl.ViewSame(table, other, observer) {
					continue
				}
				pairs++
				for number := range table {
					if table[number].Kind != 3 || !flows(table[number].Label, observer) {
						continue
					}
					for j := range 36 {
						c := impl.Call{Kind: j/4 + 1, Run: number + 1, A: j % 4, B: (j + 1) % 4, N: i % 100}
						_, answer := impl.CallDo(table, c)
						if _, got := impl.CallDo(other, c); got != answer {
							t.Errorf("%+v is %d, but %d in what looks the same to %v:\n%s", c, answer, got, observer, impl.TableText(other))
						}
					}
				}
			}
		}
	}
	if pairs < 500 {
		t.Errorf("only %d pairs of tables look the same", pairs)
	}
}

func TestP75HiddenIsEmpty(t *testing.T) {
	hidden := map[int]int{}
	eachView(func(table []impl.Thing, observer impl.Label) {
		view := impl.ViewOf(table, observer)
		if len(view) != len(table) {
			t.Fatalf("%v sees %d objects of %d", observer, len(view), len(table))
		}
		for i, thing := range view {
			if !impl.ViewHigh(table, i+1, observer) {
				continue
			}
			hidden[thing.Kind]++
			if !impl.ThingOk(thing) || thing.Vers != 0 || thing.Num != 0 || len(thing.Queue) != 0 {
				t.Errorf("the hidden object %d of %v is %v", i+1, table, thing)
			}
			if slices.ContainsFunc(thing.Slots, func(r impl.Right) bool { return r != noRight }) {
				t.Errorf("the hidden object %d of %v has a right: %v", i+1, table, thing)
			}
			if thing.Kind != table[i].Kind || thing.Label != table[i].Label || thing.To != table[i].To {
				t.Errorf("the hidden object %d of %v is another one: %v", i+1, table, thing)
			}
		}
	})
	for _, shape := range shapes {
		if hidden[shape.kind] < 500 {
			t.Errorf("only %d hidden objects are a %s", hidden[shape.kind], shape.name)
		}
	}
}

// TestP75EveryObjectStays has tables of one object to eight, of which all are hidden, or none, or one.
func TestP75EveryObjectStays(t *testing.T) {
	for size := 1; size <= 8; size++ {
		for only := range size {
			for _, shape := range shapes {
				table := slices.Repeat([]impl.Thing{page(77, 5)}, size)
				for i := range table {
					table[i].Label = label(1, 0)
				}
				if shape.kind != impl.KindGate || only > 0 {
					table[only] = shape.plain()
				}
				table[only].Label = label(2, 0)
				for _, observer := range allLabels() {
					got := impl.ViewOf(table, observer)
					if len(got) != size || !impl.TableOk(got) || !sameTable(got, wantView(table, observer)) {
						t.Errorf("%v sees %v as %v", observer, table, got)
					}
				}
			}
		}
	}
}

// series is calls of the processes that an observer does not see, in some order, all kinds but CallGate; it is empty if there are none.
func series(table []impl.Thing, observer impl.Label, seed, length int) []impl.Call {
	var high []int
	for i, thing := range table {
		if thing.Kind == 3 && !flows(thing.Label, observer) {
			high = append(high, i+1)
		}
	}
	var out []impl.Call
	for i := range length {
		if len(high) > 0 {
			x := (seed*7919 + i*(104729+2*seed)) % 1000003
			out = append(out, impl.Call{Kind: x%8 + 1, Run: high[x/8%len(high)], A: x / 16 % 4, B: x / 64 % 4, N: x / 256 % 100})
		}
	}
	return out
}

func TestP76ManyHighCalls(t *testing.T) {
	passed, changed := map[int]int{}, 0
	for i, table := range append(yards(), companies()...) {
		for j, observer := range allLabels() {
			now := table
			for _, c := range series(table, observer, 16*i+j, 30) {
				if impl.CheckCall(now, c) == 0 {
					passed[c.Kind]++
				}
				now, _ = impl.CallDo(now, c)
				if !impl.ViewSame(table, now, observer) {
					t.Fatalf("after %+v, %v sees\n%v, not\n%v", c, observer, impl.ViewOf(now, observer), impl.ViewOf(table, observer))
				}
			}
			if !looksSame(table, now, observer) {
				t.Errorf("%v sees the calls in %v", observer, table)
			}
			if !sameTable(now, table) {
				changed++
			}
		}
	}
	for kind := impl.CallRead; kind < impl.CallGate; kind++ {
		if passed[kind] < 20 {
			t.Errorf("only %d calls of %s pass", passed[kind], demands[kind-1].name)
		}
	}
	if changed < 100 {
		t.Errorf("only %d tables are changed", changed)
	}
}

// TestP76SameCallAgain has one call over and over: it fills a queue, comes to the last version, or is refused.
func TestP76SameCallAgain(t *testing.T) {
	for _, labels := range [][2]impl.Label{seesOnly, touchesOnly, seesBoth, seesNeither} {
		for _, d := range demands {
			for _, kind := range d.objects {
				if d.kind == impl.CallGate {
					continue
				}
				table := scene{kind, labels[0], labels[1], "rw-", false}.table()
				now := table
				for range 8 {
					now, _ = impl.CallDo(now, sceneCall(d.kind))
					for _, observer := range allLabels() {
						if !flows(labels[0], observer) && !looksSame(table, now, observer) {
							t.Errorf("%s of a %s by labels %v looks different to %v", d.name, shapes[kind-1].name, labels, observer)
						}
					}
				}
			}
		}
	}
}

func TestP77LowerObservers(t *testing.T) {
	pairs := 0
	check := func(a, b []impl.Thing, observer impl.Label) {
		if !impl.ViewSame(a, b, observer) {
			return
		}
		for _, lower := range allLabels() {
			if !flows(lower, observer) {
				continue
			}
			pairs++
			if !looksSame(a, b, lower) {
				t.Errorf("%v\nand %v look the same to %v, but not to %v", a, b, observer, lower)
			}
		}
	}
	eachDisguise(check)
	for i, table := range [][]impl.Thing{treasury(), yard(palettes[4], 1)} {
		for j, other := range neighbours(table) {
			check(table, other, allLabels()[(i+j)%16])
		}
	}
	if pairs < 5000 {
		t.Errorf("only %d pairs of tables", pairs)
	}
}

// TestP77NotHigherOnes holds that tables that look the same need not do so to an observer with a higher label, nor to one with another label.
func TestP77NotHigherOnes(t *testing.T) {
	table := func(num int) []impl.Thing {
		hidden := page(num, 0)
		hidden.Label = label(1, 1)
		return []impl.Thing{hidden}
	}
	// An observer sees the page if it has its secret, and is vouched for by no more than the page is.
	for _, observer := range allLabels() {
		same := !slices.Contains([]impl.Label{label(1, 0), label(1, 1), label(3, 0), label(3, 1)}, observer)
		if impl.ViewSame(table(1), table(2), observer) != same {
			t.Errorf("to %v the tables look the same: %v", observer, !same)
		}
	}
}

// TestP78Transitive has three tables each.
func TestP78Transitive(t *testing.T) {
	chains := map[bool]int{}
	for i, table := range yards() {
		for j, observer := range allLabels() {
			tables := [][]impl.Thing{table, with(table, 0, func(x *impl.Thing) { x.Num = 43 }), with(table, 6, func(x *impl.Thing) { x.Queue = nil }), with(table, 7, func(x *impl.Thing) { x.Num = 0 })}
			if (i+j)%3 > 0 {
				continue
			}
			if others := disguises(table, observer); others != nil {
				tables = append(tables, others[len(others)-1])
			}
			for _, a := range tables {
				for _, b := range tables {
					if !impl.ViewSame(a, b, observer) {
						chains[false]++
						continue
					}
					for _, c := range tables {
						if impl.ViewSame(b, c, observer) {
							chains[true]++
							if !impl.ViewSame(a, c, observer) {
								t.Errorf("to %v %v looks the same as %v, and this as %v, but not the first as the last", observer, a, b, c)
							}
						}
					}
				}
			}
		}
	}
	if chains[true] < 5000 || chains[false] < 500 {
		t.Errorf("of the tables, those in a chain are %v", chains)
	}
}

// TestP78OverHighCalls holds that all states in the course of calls by high processes look the same, also as what looks the same as the first.
func TestP78OverHighCalls(t *testing.T) {
	for i, table := range yards() {
		for j, observer := range allLabels() {
			if (i+j)%3 > 0 {
				continue
			}
			states := [][]impl.Thing{table}
			for _, c := range series(table, observer, i+40*j, 10) {
				next, _ := impl.CallDo(states[len(states)-1], c)
				states = append(states, next)
			}
			if others := disguises(table, observer); others != nil {
				states = append(states, others[len(others)-1])
			}
			for _, a := range states {
				for _, b := range states {
					if !impl.ViewSame(a, b, observer) {
						t.Errorf("to %v %v does not look the same as %v", observer, a, b)
					}
				}
			}
		}
	}
}

// TestP79HiddenNumbers has each number of a hidden page and many queues of a hidden pipe.
func TestP79HiddenNumbers(t *testing.T) {
	table := treasury()
	for _, observer := range allLabels() {
		if flows(label(1, 0), observer) {
			continue
		}
		want := wantView(table, observer)
		for n := range 100 {
			for _, queue := range [][]int{nil, {}, {n}, {n, 99 - n}, {0, n, 0}} {
				other := with(table, 1, func(x *impl.Thing) { x.Num = n })
				other[5].Queue = queue
				if got := impl.ViewOf(other, observer); !sameTable(got, want) || !impl.ViewSame(table, other, observer) {
					t.Errorf("%v sees a page with %d and a pipe with %v as %v", observer, n, queue, got)
				}
			}
		}
	}
}

// TestP79AllTables has, in each table, other numbers in all hidden pages and pipes, and then in those that are seen.
func TestP79AllTables(t *testing.T) {
	counts := map[bool]int{}
	eachView(func(table []impl.Thing, observer impl.Label) {
		for _, hidden := range []bool{true, false} {
			other := copyTable(table)
			changed := false
			for i, thing := range table {
				if flows(thing.Label, observer) == hidden {
					continue
				}
				if thing.Kind == 1 {
					other[i].Num, changed = (thing.Num+50)%100, true
				}
				if thing.Kind == 4 {
					other[i].Queue, changed = append([]int{98}, thing.Queue[:len(thing.Queue)/2]...), true
				}
			}
			if !changed {
				continue
			}
			counts[hidden]++
			same := sameTable(impl.ViewOf(table, observer), impl.ViewOf(other, observer))
			if same != hidden {
				t.Errorf("%v sees %v and %v as the same: %v", observer, table, other, same)
			}
		}
	})
	if counts[true] < 1000 || counts[false] < 1000 {
		t.Errorf("the tables with other numbers are %v", counts)
	}
}

// TestP68ArgumentsStay holds that no function changes its arguments, nor minds what is behind the ends of slices.
func TestP68ArgumentsStay(t *testing.T) {
	observers := append(allLabels(), label(4, 0), label(0, -1), label(math.MaxInt, math.MinInt))
	for i, plain := range append(everyTable(), yards()...) {
		table, other := roomy(plain), roomy(plain)
		before := whole(table)
		for _, observer := range observers {
			if !sameTable(impl.ViewOf(table, observer), impl.ViewOf(plain, observer)) || impl.ViewSame(table, other, observer) != impl.ViewSame(plain, plain, observer) {
				t.Errorf("what is behind the ends of slices changes what %v sees of %v", observer, plain)
			}
			for number := range 10 {
				if impl.ViewHigh(table, number, observer) != impl.ViewHigh(plain, number, observer) {
					t.Errorf("what is behind the ends of slices changes whether %v sees object %d of %v", observer, number, plain)
				}
			}
		}
		if !reflect.DeepEqual(whole(table), before) || !reflect.DeepEqual(whole(other), before) {
			t.Errorf("argument %d is changed from %v to %v, and to %v", i, before, whole(table), whole(other))
		}
	}
}

// TestP68ResultsShareNoMemory holds that neither an argument nor another result changes with a result.
func TestP68ResultsShareNoMemory(t *testing.T) {
	eachView(func(plain []impl.Thing, observer impl.Label) {
		table := roomy(plain)
		before := whole(table)
		first, second := impl.ViewOf(table, observer), impl.ViewOf(table, observer)
		want := copyTable(first)
		overwrite(second)
		if !sameTable(first, want) || !reflect.DeepEqual(whole(table), before) {
			t.Errorf("what %v sees of %v shares memory with it or with another result", observer, plain)
		}
		overwrite(table)
		if !sameTable(first, want) || !sameTable(impl.ViewOf(plain, observer), want) {
			t.Errorf("what %v sees of %v changes with it", observer, plain)
		}
	})
}

// TestP68ObjectsShareNoMemory holds that no object of a result changes with another one, also where one slice is in several objects of the argument.
func TestP68ObjectsShareNoMemory(t *testing.T) {
	slots, queue := []impl.Right{right(1, 0, "r--"), {}, {}, {}}, []int{1, 2}
	shared := []impl.Thing{
		{Kind: 2, Slots: slots}, {Kind: 3, Slots: slots}, {Kind: 2, Label: label(1, 0), Slots: slots}, {Kind: 3, Label: label(1, 0), Slots: slots},
		{Kind: 4, Queue: queue}, {Kind: 4, Queue: queue}, {Kind: 4, Label: label(1, 0), Queue: queue}, {Kind: 4, Label: label(1, 0), Queue: queue},
	}
	for _, table := range append(yards(), shared, treasury(), wide()) {
		for _, observer := range []impl.Label{lowest, label(0, 0), label(1, 0), label(2, 1), highest} {
			view := impl.ViewOf(table, observer)
			for i := range view {
				want := copyTable(view)
				slots, queue := view[i].Slots[:cap(view[i].Slots)], view[i].Queue[:cap(view[i].Queue)]
				for j := range slots {
					slots[j] = right(6, 6, "rwk")
				}
				for j := range queue {
					queue[j] = 2000
				}
				view[i], want[i] = impl.Thing{}, impl.Thing{}
				if !sameTable(view, want) {
					t.Fatalf("object %d of what %v sees of %v shares memory with another one", i+1, observer, table)
				}
			}
		}
	}
}

// TestP68NilIsEmpty holds that a nil slice and an empty one count as the same.
func TestP68NilIsEmpty(t *testing.T) {
	for _, plain := range append(everyTable(), yards()...) {
		one, other := copyTable(plain), copyTable(plain)
		for i, thing := range plain {
			if len(thing.Slots) == 0 {
				one[i].Slots, other[i].Slots = nil, []impl.Right{}
			}
			if len(thing.Queue) == 0 {
				one[i].Queue, other[i].Queue = nil, []int{}
			}
		}
		for _, observer := range allLabels() {
			if !sameTable(impl.ViewOf(one, observer), impl.ViewOf(other, observer)) || impl.ViewSame(one, other, observer) != impl.TableOk(plain) {
				t.Errorf("what %v sees of %v depends on nil slices", observer, plain)
			}
			for number := range 10 {
				if impl.ViewHigh(one, number, observer) != impl.ViewHigh(other, number, observer) {
					t.Errorf("whether %v sees object %d of %v depends on nil slices", observer, number, plain)
				}
			}
		}
	}
	for _, empty := range [][]impl.Thing{nil, {}} {
		for _, observer := range allLabels() {
			if len(impl.ViewOf(empty, observer)) != 0 || impl.ViewSame(empty, nil, observer) || impl.ViewSame(empty, []impl.Thing{}, observer) || impl.ViewHigh(empty, 1, observer) || impl.ViewHigh(empty, 0, observer) {
				t.Errorf("%#v counts as a table", empty)
			}
		}
	}
}

// TestP68AtTheSameTime has one table seen by many at the same time.
func TestP68AtTheSameTime(t *testing.T) {
	table := treasury()
	var all sync.WaitGroup
	for _, observer := range allLabels() {
		want := wantView(table, observer)
		all.Go(func() {
			for range 200 {
				if got := impl.ViewOf(table, observer); !sameTable(got, want) {
					t.Errorf("%v sees %v, want %v", observer, got, want)
				}
			}
		})
	}
	all.Wait()
}
