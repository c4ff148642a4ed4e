package tests

import (
	"fmt"
	"maps"
	"math"
	"reflect"
	"slices"
	"strings"
	"sync"
	"testing"

	"loop.example/drawbar/impl"
)

// textOf is the text of a valid right that is not to nothing.
func textOf(r impl.Right) string {
	return string([]byte{byte('0' + r.Thing), '.', byte('0' + r.Vers)}) + lettersOf(r)
}

// textsOf is the texts of rights, as they come.
func textsOf(list []impl.Right) string {
	var out []string
	for _, r := range list {
		out = append(out, textOf(r))
	}
	return strings.Join(out, " ")
}

// covered says whether a right is contained in one of a list.
func covered(list []impl.Right, r impl.Right) bool {
	return r == noRight || slices.ContainsFunc(list, func(other impl.Right) bool { return contained(r, other) })
}

// liveNode says whether a right of an object of the table is to a node as it is now.
func liveNode(table []impl.Thing, r impl.Right) bool {
	return r != noRight && table[r.Thing-1].Kind == 2 && table[r.Thing-1].Vers == r.Vers
}

// wantObtained is, for each object of a table, the set of what it can obtain: the sentence of the document, again and again for all of them.
func wantObtained(table []impl.Thing) []map[impl.Right]bool {
	sets := make([]map[impl.Right]bool, len(table))
	for i, thing := range table {
		sets[i] = map[impl.Right]bool{}
		for _, r := range thing.Slots {
			if r != noRight {
				sets[i][r] = true
			}
		}
	}
	count := -1
	for count != sizeOf(sets) {
		count = sizeOf(sets)
		for i, thing := range table {
			for _, used := range slices.Collect(maps.Keys(sets[i])) {
				if thing.Kind != 3 || !liveNode(table, used) {
					continue
				}
				node := sets[used.Thing-1]
				if used.Read {
					for r := range node {
						if used.Weak {
							r = lessened(r, 1)
						}
						sets[i][r] = true
					}
				}
				if used.Write {
					maps.Copy(node, sets[i])
				}
			}
		}
	}
	return sets
}

func sizeOf(sets []map[impl.Right]bool) int {
	count := 0
	for _, set := range sets {
		count += len(set)
	}
	return count
}

// wantReach is ReachAll as the document says it.
func wantReach(table []impl.Thing) [][]impl.Right {
	var out [][]impl.Right
	for _, set := range wantObtained(table) {
		var list []impl.Right
		for r := range set {
			others := maps.Clone(set)
			delete(others, r)
			if !covered(slices.Collect(maps.Keys(others)), r) {
				list = append(list, r)
			}
		}
		slices.SortFunc(list, func(a, b impl.Right) int { return strings.Compare(textOf(a), textOf(b)) })
		out = append(out, list)
	}
	return out
}

// sameReach counts a nil slice and an empty one as the same.
func sameReach(a, b [][]impl.Right) bool {
	return slices.EqualFunc(a, b, func(x, y []impl.Right) bool { return slices.Equal(x, y) })
}

// within says whether each right of each object is contained in one of the same object in the other.
func within(a, b [][]impl.Right) bool {
	return slices.EqualFunc(a, b, func(x, y []impl.Right) bool {
		return !slices.ContainsFunc(x, func(r impl.Right) bool { return !covered(y, r) })
	})
}

// reachText is one line per object.
func reachText(reach [][]impl.Right) string {
	text := ""
	for i, list := range reach {
		text += fmt.Sprintln(i+1, textsOf(list))
	}
	return text
}

// web has one to eight objects, most of them processes and nodes; most rights are to nodes, and live; how it is depends on the turn.
func web(turn int) []impl.Thing {
	luck := chance(turn)
	var table []impl.Thing
	var nodes []int
	for i := range 1 + turn%8 {
		kind := []int{1, 2, 2, 2, 3, 3, 3, 4, 5}[luck.below(9)]
		if kind == 5 && firstPage(table) == 0 {
			kind = 1
		}
		thing := shapes[kind-1].plain()
		thing.Vers = luck.below(shapes[kind-1].vers[1] + 1)
		if kind == 5 {
			thing.To = firstPage(table)
		}
		if kind == 2 {
			nodes = append(nodes, i)
		}
		table = append(table, thing)
	}
	for i := range table {
		if turn/8%2 == 1 {
			table[i].Label = palettes[turn/16%len(palettes)][luck.below(2)]
		}
		for slot := range table[i].Slots {
			to := luck.below(len(table))
			if len(nodes) > 0 && luck.below(2) == 0 {
				to = nodes[luck.below(len(nodes))]
			}
			if luck.below(4) > 0 {
				vers := max(table[to].Vers-luck.below(8)/7, 0)
				table[i].Slots[slot] = right(to+1, vers, []string{"rw-", "r--", "r--", "-w-", "-w-", "r-k", "r-k", "---", "--k"}[luck.below(9)])
			}
		}
	}
	return table
}

// webs is made once; nothing may be changed in it.
var webs = sync.OnceValue(func() [][]impl.Thing {
	var out [][]impl.Thing
	for turn := range 1600 {
		out = append(out, web(turn))
	}
	return out
})

// reachTables is made once; nothing may be changed in it.
var reachTables = sync.OnceValue(func() [][]impl.Thing {
	out := slices.Concat(webs(), someTables(), halls(), yards(), companies(), [][]impl.Thing{store(), treasury()})
	for _, example := range reachExamples {
		out = append(out, example.table)
	}
	return out
})

// processesOf is the numbers of the processes of a table.
func processesOf(table []impl.Thing) []int {
	low, _ := runsOf(table, highest)
	return low
}

// reachExample is a table, and for each of its objects what it can obtain.
type reachExample struct {
	what  string
	table []impl.Thing
	want  []string
}

type things = []impl.Thing

// reachExamples has what comes of each sort of right, by way of one object and of several.
var reachExamples = []reachExample{
	{"one page", things{page(5, 1)}, []string{""}},
	{"one pipe", things{pipe(0, 1, 2)}, []string{""}},
	{"one process without rights", things{run(0)}, []string{""}},
	{"one process with a right to itself", things{run(0, right(1, 0, "rw-"))}, []string{"1.0rw-"}},
	{"one node without rights", things{node(3)}, []string{""}},
	{"one node with a right to itself", things{node(2, noRight, right(1, 2, "rw-"))}, []string{"1.2rw-"}},

	{"a node that is readable", things{page(0, 0), node(0, right(1, 0, "rw-")), run(0, right(2, 0, "r--"))}, []string{"", "1.0rw-", "1.0rw- 2.0r--"}},
	{"a node that is writable", things{page(0, 0), node(0, right(1, 0, "rw-")), run(0, right(2, 0, "-w-"))}, []string{"", "1.0rw- 2.0-w-", "2.0-w-"}},
	{"a node that is both", things{page(0, 0), node(0, right(1, 0, "rw-")), run(0, right(2, 0, "rw-"))}, []string{"", "1.0rw- 2.0rw-", "1.0rw- 2.0rw-"}},
	{"a node that is neither", things{page(0, 0), node(0, right(1, 0, "rw-")), run(0, right(2, 0, "---"))}, []string{"", "1.0rw-", "2.0---"}},
	{"a node by two rights, one to read and one to write", things{page(0, 0), node(0, right(1, 0, "rw-")), run(0, right(2, 0, "r--"), right(2, 0, "-w-"))}, []string{"", "1.0rw- 2.0-w- 2.0r--", "1.0rw- 2.0-w- 2.0r--"}},
	{"a weak right to a node", things{page(0, 0), node(0, right(1, 0, "rw-")), run(0, right(2, 0, "r-k"))}, []string{"", "1.0rw-", "1.0r-k 2.0r-k"}},
	{"a weak right that is not readable", things{page(0, 0), node(0, right(1, 0, "rw-")), run(0, right(2, 0, "--k"))}, []string{"", "1.0rw-", "2.0--k"}},
	{"a weak right to a node, of what is not readable", things{page(0, 0), node(0, right(1, 0, "-w-")), run(0, right(2, 0, "r-k"))}, []string{"", "1.0-w-", "1.0--k 2.0r-k"}},
	{"a node by a weak right and by one that is not", things{page(0, 0), node(0, right(1, 0, "rw-")), run(0, right(2, 0, "r-k"), right(2, 0, "r--"))}, []string{"", "1.0rw-", "1.0rw- 2.0r--"}},
	{"a node that is read weakly and written", things{page(0, 0), node(0, right(1, 0, "rw-")), run(0, right(2, 0, "r-k"), right(2, 0, "-w-"))}, []string{"", "1.0rw- 2.0-w- 2.0r-k", "1.0r-k 2.0-w- 2.0r-k"}},
	{"a node without rights", things{node(0), run(0, right(1, 0, "rw-"))}, []string{"1.0rw-", "1.0rw-"}},
	{"a node without rights that is only readable", things{node(0), run(0, right(1, 0, "r--"))}, []string{"", "1.0r--"}},
	{"the last version of a node", things{page(0, 5), node(5, right(1, 5, "rw-")), run(0, noRight, noRight, noRight, right(2, 5, "r--"))}, []string{"", "1.5rw-", "1.5rw- 2.5r--"}},

	{"an earlier version of a node", things{page(0, 0), node(2, right(1, 0, "rw-")), run(0, right(2, 1, "rw-"))}, []string{"", "1.0rw-", "2.1rw-"}},
	{"the first version of a node, and the current one that is neither", things{page(0, 0), node(5, right(1, 0, "rw-")), run(0, right(2, 0, "rw-"), right(2, 5, "---"))}, []string{"", "1.0rw-", "2.0rw- 2.5---"}},
	{"an earlier version of a node, and the current one", things{page(0, 0), node(2, right(1, 0, "rw-")), run(0, right(2, 1, "rw-"), right(2, 2, "r-k"))}, []string{"", "1.0rw-", "1.0r-k 2.1rw- 2.2r-k"}},
	{"an earlier version of a page in a node", things{page(0, 3), node(2, right(1, 2, "rw-"), right(1, 3, "r--")), run(0, right(2, 2, "r--"))}, []string{"", "1.2rw- 1.3r--", "1.2rw- 1.3r-- 2.2r--"}},
	{"an earlier version of a node in a node", things{page(0, 0), node(0, right(3, 0, "rw-")), node(1, right(1, 0, "rw-")), run(0, right(2, 0, "r--"))}, []string{"", "3.0rw-", "1.0rw-", "2.0r-- 3.0rw-"}},

	{"two nodes, one behind the other", things{page(0, 0), node(0, right(3, 0, "r--")), node(0, right(1, 0, "rw-")), run(0, right(2, 0, "r--"))}, []string{"", "3.0r--", "1.0rw-", "1.0rw- 2.0r-- 3.0r--"}},
	{"two nodes, the first by a weak right", things{page(0, 0), node(0, right(3, 0, "r--")), node(0, right(1, 0, "rw-")), run(0, right(2, 0, "r-k"))}, []string{"", "3.0r--", "1.0rw-", "1.0r-k 2.0r-k 3.0r-k"}},
	{"two nodes, the second by a weak right", things{page(0, 0), node(0, right(3, 0, "r-k")), node(0, right(1, 0, "rw-")), run(0, right(2, 0, "r--"))}, []string{"", "3.0r-k", "1.0rw-", "1.0r-k 2.0r-- 3.0r-k"}},
	{"two nodes, both by weak rights", things{page(0, 0), node(0, right(3, 0, "r-k")), node(0, right(1, 0, "rw-")), run(0, right(2, 0, "r-k"))}, []string{"", "3.0r-k", "1.0rw-", "1.0r-k 2.0r-k 3.0r-k"}},
	{"two nodes, the second writable", things{page(0, 0), node(0, right(3, 0, "rw-")), node(0, right(1, 0, "rw-")), run(0, right(2, 0, "r--"))}, []string{"", "3.0rw-", "1.0rw- 2.0r-- 3.0rw-", "1.0rw- 2.0r-- 3.0rw-"}},
	{"two nodes, the second only writable", things{page(0, 0), node(0, right(3, 0, "-w-")), node(0, right(1, 0, "rw-")), run(0, right(2, 0, "r--"))}, []string{"", "3.0-w-", "1.0rw- 2.0r-- 3.0-w-", "2.0r-- 3.0-w-"}},
	{"two nodes, the second writable, but by a weak right to the first", things{page(0, 0), node(0, right(3, 0, "rw-")), node(0, right(1, 0, "rw-")), run(0, right(2, 0, "r-k"))}, []string{"", "3.0rw-", "1.0rw-", "1.0r-k 2.0r-k 3.0r-k"}},
	{"two nodes, the first writable", things{page(0, 0), node(0, right(3, 0, "r--")), node(0, right(1, 0, "-w-")), run(0, right(2, 0, "rw-"))}, []string{"", "1.0-w- 2.0rw- 3.0r--", "1.0-w-", "1.0-w- 2.0rw- 3.0r--"}},
	{"two nodes, the second neither readable nor writable", things{page(0, 0), node(0, right(3, 0, "---")), node(0, right(1, 0, "rw-")), run(0, right(2, 0, "rw-"))}, []string{"", "2.0rw- 3.0---", "1.0rw-", "2.0rw- 3.0---"}},
	{"three nodes, one behind the other, and the last by a weak right", things{node(0, right(2, 0, "r--")), node(0, right(3, 0, "r-k")), node(0, right(4, 0, "rw-"), right(5, 2, "rw-")), run(0, right(1, 0, "r--")), page(0, 2)}, []string{"2.0r--", "3.0r-k", "4.0rw- 5.2rw-", "1.0r-- 2.0r-- 3.0r-k 4.0r-k 5.2r-k", ""}},

	{"nodes with rights to each other", things{page(0, 0), node(0, right(3, 0, "r--")), node(0, right(2, 0, "rw-"), right(1, 0, "-w-")), run(0, right(2, 0, "r--"))}, []string{"", "1.0-w- 2.0rw- 3.0r--", "1.0-w- 2.0rw-", "1.0-w- 2.0rw- 3.0r--"}},
	{"nodes with weak rights to each other", things{page(0, 0), node(0, right(3, 0, "r-k")), node(0, right(2, 0, "r-k"), right(1, 0, "rw-")), run(0, right(2, 0, "r--"))}, []string{"", "3.0r-k", "1.0rw- 2.0r-k", "1.0r-k 2.0r-- 3.0r-k"}},
	{"a node with a right to itself", things{page(0, 0), node(0, right(2, 0, "rw-")), run(0, right(2, 0, "r--"), right(1, 0, "r--"))}, []string{"", "1.0r-- 2.0rw-", "1.0r-- 2.0rw-"}},
	{"a node with a right to itself, by a weak one", things{page(0, 0), node(0, right(2, 0, "rw-")), run(0, right(2, 0, "r-k"), right(1, 0, "r--"))}, []string{"", "2.0rw-", "1.0r-- 2.0r-k"}},
	{"nodes with rights to each other, and no process", things{page(0, 0), node(0, right(3, 0, "rw-")), node(0, right(2, 0, "rw-"), right(1, 0, "rw-"))}, []string{"", "3.0rw-", "1.0rw- 2.0rw-"}},

	{"a process by way of another one", things{page(0, 0), node(0), run(0, right(2, 0, "-w-"), right(1, 0, "rw-")), run(0, right(2, 0, "r--"))}, []string{"", "1.0rw- 2.0-w- 2.0r--", "1.0rw- 2.0-w-", "1.0rw- 2.0-w- 2.0r--"}},
	{"a process by way of another one, by a weak right", things{page(0, 0), node(0), run(0, right(2, 0, "-w-"), right(1, 0, "rw-")), run(0, right(2, 0, "r-k"))}, []string{"", "1.0rw- 2.0-w-", "1.0rw- 2.0-w-", "1.0r-k 2.0r-k"}},
	{"a process by way of a later one", things{run(0, right(2, 0, "r-k")), node(0), run(0, right(4, 0, "r--"), right(2, 0, "-w-")), page(0, 0)}, []string{"2.0r-k 4.0r-k", "2.0-w- 4.0r--", "2.0-w- 4.0r--", ""}},
	{"two processes that exchange all", things{node(1), run(0, right(1, 1, "rw-"), right(4, 0, "r--")), run(0, right(1, 1, "rw-"), right(4, 0, "-w-")), page(0, 0)}, []string{"1.1rw- 4.0-w- 4.0r--", "1.1rw- 4.0-w- 4.0r--", "1.1rw- 4.0-w- 4.0r--", ""}},
	{"two processes that both only read", things{node(1, right(4, 0, "--k")), run(0, right(1, 1, "r--"), right(4, 0, "r--")), run(0, right(1, 1, "r--"), right(4, 0, "-w-")), page(0, 0)}, []string{"4.0--k", "1.1r-- 4.0r--", "1.1r-- 4.0-w-", ""}},
	{"two processes that both only write", things{node(1), run(0, right(1, 1, "-w-"), right(4, 0, "r--")), run(0, right(1, 1, "-w-"), right(4, 0, "-w-")), page(0, 0)}, []string{"1.1-w- 4.0-w- 4.0r--", "1.1-w- 4.0r--", "1.1-w- 4.0-w-", ""}},
	{"two processes, one of them to an earlier version", things{node(1), run(0, right(1, 1, "rw-"), right(4, 0, "r--")), run(0, right(1, 0, "rw-"), right(4, 0, "-w-")), page(0, 0)}, []string{"1.1rw- 4.0r--", "1.1rw- 4.0r--", "1.0rw- 4.0-w-", ""}},
	{"a node that is written by a right that comes from another process", things{page(0, 0), node(0, right(3, 0, "-w-")), node(0), run(0, right(2, 0, "r-k"), right(1, 0, "rw-")), run(0, right(2, 0, "r--"), right(1, 0, "r--")), run(0, right(3, 0, "r-k"))}, []string{"", "3.0-w-", "1.0r-- 2.0r-- 3.0-w-", "1.0rw- 2.0r-k 3.0--k", "1.0r-- 2.0r-- 3.0-w-", "1.0r-k 2.0r-k 3.0r-k"}},
	{"four processes, each by way of the one before", things{page(0, 0), node(0), node(0), node(0), run(0, right(2, 0, "-w-"), right(1, 0, "rw-")), run(0, right(2, 0, "r-k"), right(3, 0, "-w-")), run(0, right(3, 0, "r--"), right(4, 0, "-w-")), run(0, right(4, 0, "r-k"))}, []string{
		"", "1.0rw- 2.0-w-", "1.0r-k 2.0r-k 3.0-w- 3.0r-- 4.0-w-", "1.0r-k 2.0r-k 3.0-w- 3.0r-- 4.0-w-", "1.0rw- 2.0-w-", "1.0r-k 2.0r-k 3.0-w-", "1.0r-k 2.0r-k 3.0-w- 3.0r-- 4.0-w-", "1.0r-k 2.0r-k 3.0r-k 4.0r-k",
	}},

	{"rights to objects of every kind", things{page(0, 0), node(0), run(0), pipe(0), gate(0, 1), node(0, right(1, 0, "rw-"), right(2, 0, "---"), right(3, 0, "rw-"), right(4, 0, "-w-")), run(0, right(6, 0, "r--"), right(5, 0, "-w-"))}, []string{"", "", "", "", "", "1.0rw- 2.0--- 3.0rw- 4.0-w-", "1.0rw- 2.0--- 3.0rw- 4.0-w- 5.0-w- 6.0r--"}},
	{"rights to objects of every kind, by a weak one", things{page(0, 0), node(0), run(0), pipe(0), gate(0, 1), node(0, right(3, 0, "r--"), right(2, 0, "rw-"), right(5, 0, "-w-"), right(4, 0, "rw-")), run(0, right(6, 0, "r-k"))}, []string{"", "", "", "", "", "2.0rw- 3.0r-- 4.0rw- 5.0-w-", "2.0r-k 3.0r-k 4.0r-k 5.0--k 6.0r-k"}},
	{"a right to a process that has rights", things{page(0, 0), run(0, right(1, 0, "rw-")), run(0, right(2, 0, "rw-"))}, []string{"", "1.0rw-", "2.0rw-"}},
	{"a node with a right to a process that has rights", things{page(0, 0), run(0, right(1, 0, "rw-")), node(0, right(2, 0, "rw-")), run(0, right(3, 0, "r--"))}, []string{"", "1.0rw-", "2.0rw-", "2.0rw- 3.0r--"}},

	{"rights of which one contains all others", things{page(0, 0), run(0, right(1, 0, "r-k"), right(1, 0, "rw-"), right(1, 0, "--k"), right(1, 0, "---"))}, []string{"", "1.0rw-"}},
	{"the same right again and again", things{page(0, 0), run(0, right(1, 0, "r-k"), right(1, 0, "r-k"), right(1, 0, "r-k"), right(1, 0, "r-k"))}, []string{"", "1.0r-k"}},
	{"reading and writing apart", things{page(0, 0), run(0, right(1, 0, "r--"), right(1, 0, "-w-"), right(1, 0, "---"), right(1, 0, "--k"))}, []string{"", "1.0-w- 1.0r--"}},
	{"nothing strong, and reading weak", things{page(0, 0), run(0, right(1, 0, "r-k"), right(1, 0, "---"), right(1, 0, "--k"))}, []string{"", "1.0--- 1.0r-k"}},
	{"writing strong, and reading weak", things{page(0, 0), run(0, right(1, 0, "r-k"), right(1, 0, "-w-"), right(1, 0, "---"))}, []string{"", "1.0-w- 1.0r-k"}},
	{"another version contains nothing", things{page(0, 2), run(0, right(1, 2, "--k"), right(1, 1, "rw-"), right(1, 0, "r--"))}, []string{"", "1.0r-- 1.1rw- 1.2--k"}},
	{"another object contains nothing", things{page(0, 0), page(0, 0), run(0, right(2, 0, "--k"), right(1, 0, "rw-"))}, []string{"", "", "1.0rw- 2.0--k"}},
	{"what is contained in what comes of a node", things{page(0, 0), node(0, right(1, 0, "rw-"), right(2, 0, "--k")), run(0, right(1, 0, "r--"), right(2, 0, "r--"))}, []string{"", "1.0rw- 2.0--k", "1.0rw- 2.0r--"}},

	{"the order of objects and versions", things{page(0, 5), page(0, 5), run(0, right(2, 0, "rw-"), right(1, 5, "---"), right(1, 4, "rw-"), right(2, 5, "-w-"))}, []string{"", "", "1.4rw- 1.5--- 2.0rw- 2.5-w-"}},
	{"the order of letters", things{page(0, 5), run(0, right(1, 5, "r-k"), right(1, 5, "-w-"), right(1, 0, "r--"), right(1, 0, "-w-"))}, []string{"", "1.0-w- 1.0r-- 1.5-w- 1.5r-k"}},
	{"eight objects in order", things{run(0, right(8, 0, "r--"), right(7, 0, "r--"), right(6, 0, "-w-"), right(2, 0, "r--")), node(0, right(1, 0, "---"), right(3, 0, "---"), right(4, 0, "---"), right(5, 0, "---")), page(0, 0), page(0, 0), page(0, 0), page(0, 0), page(0, 0), page(0, 0)}, []string{"1.0--- 2.0r-- 3.0--- 4.0--- 5.0--- 6.0-w- 7.0r-- 8.0r--", "1.0--- 3.0--- 4.0--- 5.0---", "", "", "", "", "", ""}},
}

// TestP96EachCall holds each capability after a call against those that the object had, the process had, and, for CallFetch, the node had.
func TestP96EachCall(t *testing.T) {
	from := map[string]int{}
	check := func(p play) {
		for i, thing := range p.after {
			for _, r := range thing.Slots {
				switch {
				case slices.Contains(p.before[i].Slots, r):
					from["the object"]++
				case covered(p.before[i].Slots, r):
					from["the object, but less"]++
				case covered(p.before[p.call.Run-1].Slots, r):
					from["the process"]++
				case p.call.Kind == impl.CallFetch && p.object > 0 && i+1 == p.call.Run && slices.Contains(p.before[p.object-1].Slots, r):
					from["the node"]++
				case p.call.Kind == impl.CallFetch && p.object > 0 && i+1 == p.call.Run && covered(p.before[p.object-1].Slots, r):
					from["the node, but less"]++
				default:
					t.Errorf("%vgives object %d the right %v", p, i+1, r)
				}
			}
		}
	}
	eachPlay(check)
	eachTurn(check)
	for _, table := range webs() {
		for _, number := range processesOf(table) {
			eachCallOf(table, number, check)
		}
	}
	for _, what := range []string{"the object", "the object, but less", "the process", "the node", "the node, but less"} {
		if from[what] < 500 {
			t.Errorf("the rights are from %v", from)
		}
	}
}

// TestP96EachFetch has a right with each letters in a node, fetched by one with each letters.
func TestP96EachFetch(t *testing.T) {
	for _, letters := range rightLetters {
		for _, used := range rightLetters {
			table := []impl.Thing{page(0, 3), node(2, noRight, right(1, 3, letters)), run(0, right(2, 2, used), right(1, 2, "rw-"))}
			after, _ := impl.CallDo(table, impl.Call{Kind: impl.CallFetch, Run: 3, A: 0, B: 3, N: 1})
			got := after[2].Slots[3]
			if got != noRight && !impl.RightIn(got, table[1].Slots[1]) {
				t.Errorf("%v is fetched from %v", got, table[1])
			}
			want := noRight
			switch used {
			case "r--", "rw-":
				want = table[1].Slots[1]
			case "r-k":
				want = lessened(table[1].Slots[1], 1)
			}
			if got != want || !sameThing(after[1], table[1]) || !slices.Equal(after[2].Slots[:3], table[2].Slots[:3]) {
				t.Errorf("by %s, %v of %s is fetched, want %v, in\n%s", used, got, letters, want, impl.TableText(after))
			}
		}
	}
}

// TestP96EachCopy has each right copied with each number, to another slot and to its own.
func TestP96EachCopy(t *testing.T) {
	for _, letters := range rightLetters {
		for n := range 100 {
			for slot := range 4 {
				table := []impl.Thing{page(0, 3), run(0, right(2, 0, "r--"), right(1, 3, letters), right(1, 2, "rw-"))}
				after, answer := impl.CallDo(table, impl.Call{Kind: impl.CallCopy, Run: 2, A: 1, B: slot, N: n})
				if answer != 0 || !impl.RightIn(after[1].Slots[slot], right(1, 3, letters)) {
					t.Errorf("the copy of %s with %d is %d with %v", letters, n, answer, after)
				}
			}
		}
	}
}

// TestP96NoCall has calls and tables that are invalid: there is nothing that could have a right afterwards.
func TestP96NoCall(t *testing.T) {
	for what, c := range invalidCalls(impl.Call{Kind: impl.CallFetch, Run: 3, A: 0, B: 1, N: 2}) {
		if after, answer := impl.CallDo(wide(), c); len(after) != 0 || answer != -1 {
			t.Errorf("%s: the call is %d with %v", what, answer, after)
		}
	}
	for what, table := range badTables() {
		if after, answer := impl.CallDo(table, impl.Call{Kind: impl.CallCopy, Run: 3, A: 0, B: 1, N: 7}); len(after) != 0 || answer != -1 {
			t.Errorf("%s: the call is %d with %v", what, answer, after)
		}
	}
}

// TestP97Premises holds that the tables of the other tests have what the document names.
func TestP97Premises(t *testing.T) {
	sizes := map[int]int{}
	has := map[string]int{}
	for _, table := range webs() {
		sizes[len(table)]++
		sets := wantObtained(table)
		reach := wantReach(table)
		for i, thing := range table {
			count := func(what string, does bool) {
				if does {
					has[what]++
				}
			}
			own := slices.DeleteFunc(slices.Clone(thing.Slots), func(r impl.Right) bool { return r == noRight })
			count("a process obtains what it had not", thing.Kind == 3 && !within(reach[i:i+1], [][]impl.Right{own}))
			count("a node obtains what it had not", thing.Kind == 2 && !within(reach[i:i+1], [][]impl.Right{own}))
			count("an object obtains no more", len(own) > 0 && within(reach[i:i+1], [][]impl.Right{own}))
			count("rights are contained in others", len(reach[i]) < len(sets[i]))
			count("a null capability", thing.Kind > 1 && slices.Contains(thing.Slots, noRight))
			for _, r := range own {
				to := table[r.Thing-1]
				isNode := thing.Kind == 3 && to.Kind == 2
				count("an earlier version of a node", isNode && r.Vers < to.Vers)
				count("a node to read only", isNode && r.Read && !r.Write && !r.Weak && r.Vers == to.Vers)
				count("a node to write only", isNode && r.Write && !r.Read && r.Vers == to.Vers)
				count("a node to read and write", isNode && r.Write && r.Read && r.Vers == to.Vers)
				count("a node for neither", isNode && !r.Write && !r.Read && r.Vers == to.Vers)
				count("a node by a weak right", isNode && r.Read && r.Weak && r.Vers == to.Vers)
				count("a weak right in a node that is read by a weak one", isNode && r.Read && r.Weak && r.Vers == to.Vers && slices.ContainsFunc(to.Slots, func(x impl.Right) bool { return x.Weak && liveNode(table, x) }))
				count("a node with a right to itself", thing.Kind == 2 && i+1 == r.Thing)
				count("a node with a right to another one", thing.Kind == 2 && to.Kind == 2 && i+1 != r.Thing)
				count("an object of kind "+shapes[to.Kind-1].name, true)
			}
		}
	}
	for size := 1; size <= 8; size++ {
		if sizes[size] < 100 {
			t.Errorf("only %d tables have %d objects", sizes[size], size)
		}
	}
	for _, what := range slices.Sorted(maps.Keys(has)) {
		if has[what] < 100 {
			t.Errorf("%s: only %d", what, has[what])
		}
	}
	if len(has) != 19 {
		t.Errorf("not all is there: %v", has)
	}
}

func TestP97Examples(t *testing.T) {
	for _, example := range reachExamples {
		got := impl.ReachAll(example.table)
		if len(got) != len(example.want) {
			t.Errorf("%s: there are %d lists, want %d", example.what, len(got), len(example.want))
			continue
		}
		for i, want := range example.want {
			if textsOf(got[i]) != want {
				t.Errorf("%s: object %d can obtain %q, want %q, in\n%s", example.what, i+1, textsOf(got[i]), want, impl.TableText(example.table))
			}
		}
	}
}

func TestP97EachTable(t *testing.T) {
	for _, table := range reachTables() {
		if got, want := impl.ReachAll(table), wantReach(table); !sameReach(got, want) {
			t.Errorf("the objects of\n%scan obtain\n%swant\n%s", impl.TableText(table), reachText(got), reachText(want))
		}
	}
}

// TestP97EachRight has a process with each right to a node, that has each right to the other node, that has each right to a page.
func TestP97EachRight(t *testing.T) {
	tables := 0
	for _, first := range append([]string{"gone"}, rightLetters...) {
		for _, second := range append([]string{"gone", "back"}, rightLetters...) {
			for _, third := range append([]string{"gone"}, rightLetters...) {
				for _, other := range rightLetters {
					table := []impl.Thing{
						run(0, right(4, 0, "r--")), page(0, 1), node(1), page(0, 0), node(1), run(0, noRight, right(5, 1, other)),
					}
					for i, link := range []struct {
						from, to int
						letters  string
					}{{1, 3, first}, {3, 5, second}, {5, 2, third}} {
						switch link.letters {
						case "gone":
							table[link.from-1].Slots[i+1] = right(link.to, 0, "rw-")
						case "back":
							table[link.from-1].Slots[i+1] = right(link.from, 1, "rw-")
						default:
							table[link.from-1].Slots[i+1] = right(link.to, 1, link.letters)
						}
					}
					tables++
					if got, want := impl.ReachAll(table), wantReach(table); !sameReach(got, want) {
						t.Errorf("the objects of\n%scan obtain\n%swant\n%s", impl.TableText(table), reachText(got), reachText(want))
					}
				}
			}
		}
	}
	if tables != 7*8*7*6 {
		t.Errorf("only %d tables", tables)
	}
}

// TestP97OwnAndGreatest holds the promise itself, apart from how far rights come.
func TestP97OwnAndGreatest(t *testing.T) {
	lists := map[int]int{}
	for _, table := range reachTables() {
		reach := impl.ReachAll(table)
		if len(reach) != len(table) {
			t.Errorf("there are %d lists for\n%s", len(reach), impl.TableText(table))
			continue
		}
		for i, thing := range table {
			lists[thing.Kind]++
			for _, r := range thing.Slots {
				if !impl.ReachIn(reach[i], r) {
					t.Errorf("object %d has %v, but can obtain %v in\n%s", i+1, r, reach[i], impl.TableText(table))
				}
			}
			if thing.Kind != impl.KindNode && thing.Kind != impl.KindRun && len(reach[i]) > 0 {
				t.Errorf("object %d can obtain %v in\n%s", i+1, reach[i], impl.TableText(table))
			}
			for j, r := range reach[i] {
				for k, other := range reach[i] {
					if j != k && impl.RightIn(r, other) {
						t.Errorf("object %d can obtain %v and %v in\n%s", i+1, r, other, impl.TableText(table))
					}
				}
				if r == noRight || !impl.RightOk(r) {
					t.Errorf("object %d can obtain %v in\n%s", i+1, r, impl.TableText(table))
				}
			}
		}
	}
	for kind := impl.KindPage; kind <= impl.KindGate; kind++ {
		if lists[kind] < 100 {
			t.Errorf("only %d objects of kind %d", lists[kind], kind)
		}
	}
}

// TestP97OthersDoNotMatter holds that neither labels, nor numbers and queues, nor gates change what can be obtained.
func TestP97OthersDoNotMatter(t *testing.T) {
	for i, plain := range reachTables() {
		want := impl.ReachAll(plain)
		for turn := range 4 {
			table := copyTable(plain)
			for j := range table {
				table[j].Label = allLabels()[(i+turn*(5*j+3))%16]
				switch table[j].Kind {
				case impl.KindPage, impl.KindRun, impl.KindGate:
					table[j].Num = (7*i + j + turn) % 100
				case impl.KindPipe:
					table[j].Queue = []int{i % 100, j, turn}[:turn]
				}
			}
			if got := impl.ReachAll(table); !sameReach(got, want) {
				t.Errorf("the objects of\n%scan obtain\n%sbut as in\n%s\n%s", impl.TableText(plain), reachText(want), impl.TableText(table), reachText(got))
			}
		}
	}
}

// TestP97OrderOfObjects holds that nothing depends on which objects come first, apart from their numbers.
func TestP97OrderOfObjects(t *testing.T) {
	for _, table := range webs() {
		count := len(table)
		turned := make([]impl.Thing, count)
		turn := func(number int) int { return count + 1 - number }
		for i, thing := range copyTable(table) {
			if thing.To > 0 {
				thing.To = turn(thing.To)
			}
			slices.Reverse(thing.Slots)
			for slot, r := range thing.Slots {
				if r != noRight {
					thing.Slots[slot].Thing = turn(r.Thing)
				}
			}
			turned[turn(i+1)-1] = thing
		}
		got, want := impl.ReachAll(turned), impl.ReachAll(table)
		slices.Reverse(got)
		for i, list := range got {
			for j := range list {
				list[j].Thing = turn(list[j].Thing)
			}
			slices.SortFunc(list, func(a, b impl.Right) int { return strings.Compare(textOf(a), textOf(b)) })
			if !slices.Equal(list, want[i]) {
				t.Errorf("object %d can obtain %s, but %s if the order is turned, in\n%s", i+1, textsOf(want[i]), textsOf(list), impl.TableText(table))
			}
		}
	}
}

// broken has lists of objects that differ from a table in one thing, which makes them none.
func broken(plain []impl.Thing) map[string][]impl.Thing {
	last := len(plain) - 1
	full := copyTable(plain)
	for len(full) < 9 {
		full = append(full, page(0, 0))
	}
	out := map[string][]impl.Thing{
		"too many objects":  full,
		"no kind":           with(plain, 0, func(x *impl.Thing) { x.Kind = 0 }),
		"kind out of range": with(plain, last, func(x *impl.Thing) { x.Kind = 6 }),
		"invalid label":     with(plain, last, func(x *impl.Thing) { x.Label.Vouch = -1 }),
		"number too great":  with(plain, 0, func(x *impl.Thing) { x.Num = 100 }),
		"queue too long":    with(plain, last, func(x *impl.Thing) { x.Queue = []int{1, 2, 3, 4} }),
		"target too great":  with(plain, last, func(x *impl.Thing) { x.To = 9 }),
	}
	for i, thing := range plain {
		if len(thing.Slots) > 0 {
			out[fmt.Sprint("right to no object in ", i)] = with(plain, i, func(x *impl.Thing) { x.Slots[2] = right(len(plain)+1, 0, "r--") })
			out[fmt.Sprint("right to a later version in ", i)] = with(plain, i, func(x *impl.Thing) { x.Slots[1] = right(i+1, thing.Vers+1, "r--") })
			out[fmt.Sprint("invalid right in ", i)] = with(plain, i, func(x *impl.Thing) { x.Slots[0] = right(i+1, 0, "-wk") })
			out[fmt.Sprint("right too few in ", i)] = with(plain, i, func(x *impl.Thing) { x.Slots = x.Slots[:3] })
		}
	}
	return out
}

// TestP97NoTable has lists of objects that are not a table, also if it is only so for what can obtain nothing.
func TestP97NoTable(t *testing.T) {
	check := func(what string, table []impl.Thing) {
		t.Helper()
		if got := impl.ReachAll(table); len(got) != 0 {
			t.Errorf("%s: the objects of %v can obtain %v", what, table, got)
		}
	}
	for what, table := range badTables() {
		check(what, table)
	}
	for _, plain := range append(companies(), webs()[:64]...) {
		for what, table := range broken(plain) {
			check(what, table)
		}
	}
}

// spreadKinds has the kinds of calls by which rights come to others, and some that take them away.
var spreadKinds = []int{3, 3, 3, 4, 4, 4, 4, 4, 4, 5, 5, 5, 5, 5, 5, 2, 7, 9, 8}

// spreadScript is calls by which rights come to others, as far as labels and slots permit; most of them pass the check if any do.
func spreadScript(table []impl.Thing, length, seed int) []impl.Call {
	runs := processesOf(table)
	if len(runs) == 0 {
		return nil
	}
	luck := chance(seed)
	now := table
	var out []impl.Call
	for range length {
		c := impl.Call{Kind: spreadKinds[luck.below(len(spreadKinds))]}
		for range 12 {
			c.Run, c.A, c.B, c.N = runs[luck.below(len(runs))], luck.below(4), luck.below(4), luck.below(100)
			if wantCheck(now, c) == 0 {
				break
			}
		}
		now, _ = wantDo(now, c)
		out = append(out, c)
	}
	return out
}

// spreads is made once; nothing may be changed in it.
var spreads = sync.OnceValue(func() []course {
	var out []course
	for i, table := range reachTables() {
		if calls := spreadScript(table, []int{40, 40, 25, 12, 3, 1}[i%6], i); len(calls) > 0 {
			out = append(out, course{table, calls, highest})
		}
	}
	return append(out, someCourses()...)
})

// eachState goes through the tables in which a script begins, and to which its calls lead.
func (x course) eachState(check func(after []impl.Thing)) {
	now := x.table
	check(now)
	for _, c := range x.calls {
		now, _ = impl.CallDo(now, c)
		check(now)
	}
}

// TestP98Premises holds that the scripts do something: that rights are copied, fetched and stored, and objects renewed.
func TestP98Premises(t *testing.T) {
	var all tally
	comes := map[string]int{}
	for _, x := range spreads() {
		all.add(x, func(impl.Call) bool { return true })
		reach := wantReach(x.table)
		x.eachState(func(after []impl.Thing) {
			for i, thing := range after {
				for _, r := range thing.Slots {
					if !covered(x.table[i].Slots, r) {
						comes["what an object had not"]++
						if slices.Contains(reach[i], r) {
							comes["all that it can obtain"]++
						}
						if r.Weak {
							comes["what is weak"]++
						}
					}
				}
			}
		})
	}
	for _, kind := range []int{impl.CallCopy, impl.CallFetch, impl.CallStore, impl.CallRenew} {
		if all.passed[kind] < 1000 || all.refused[kind] < 1000 && kind != impl.CallCopy {
			t.Errorf("%s passes %d times and is refused %d times", demands[kind-1].name, all.passed[kind], all.refused[kind])
		}
	}
	if comes["what an object had not"] < 10000 || comes["all that it can obtain"] < 5000 || comes["what is weak"] < 1000 {
		t.Errorf("too few rights come: %v", comes)
	}
}

// TestP98NeverMore holds each right that an object has in the course of a script against those that it could obtain at first.
func TestP98NeverMore(t *testing.T) {
	for _, x := range spreads() {
		reach := impl.ReachAll(x.table)
		check := func(after []impl.Thing) {
			for i, thing := range after {
				for _, r := range thing.Slots {
					if !covered(reach[i], r) || !impl.ReachIn(reach[i], r) {
						t.Errorf("object %d of %vhas %v, but can obtain %s", i+1, x, r, textsOf(reach[i]))
					}
				}
			}
		}
		x.eachState(check)
		after, _ := x.run(t)
		check(after)
	}
}

// TestP98AllShortScripts has all scripts of two calls by which rights could come to others, from tables in which much is near.
func TestP98AllShortScripts(t *testing.T) {
	tables := [][]impl.Thing{
		{page(0, 0), node(0, right(1, 0, "rw-"), right(3, 0, "r-k")), node(1, right(1, 0, "-w-")), run(0, right(2, 0, "r--"), right(3, 1, "-w-"), right(2, 0, "r-k"))},
		{page(0, 1), node(0, right(2, 0, "rw-"), right(1, 1, "r--"), right(1, 0, "rw-")), run(0, right(2, 0, "r-k"), right(1, 1, "-w-")), run(0, right(2, 0, "rw-"))},
		{pipe(0), node(2), run(0, right(2, 2, "-w-"), right(1, 0, "rw-"), right(2, 1, "rw-")), run(0, right(2, 2, "r--"), noRight, right(2, 2, "---"))},
	}
	for _, table := range tables {
		reach := impl.ReachAll(table)
		comes := 0
		var spread func(now []impl.Thing, left int)
		spread = func(now []impl.Thing, left int) {
			for i, thing := range now {
				for _, r := range thing.Slots {
					if !covered(reach[i], r) {
						t.Errorf("object %d of\n%scan obtain %s, but has %v in\n%s", i+1, impl.TableText(table), textsOf(reach[i]), r, impl.TableText(now))
					}
					if !covered(table[i].Slots, r) {
						comes++
					}
				}
			}
			if left == 0 {
				return
			}
			for _, number := range processesOf(now) {
				for slots := range 16 {
					for _, d := range []struct{ kind, numbers int }{{3, 8}, {4, 4}, {5, 4}, {8, 1}} {
						for n := range d.numbers {
							after, answer := impl.CallDo(now, impl.Call{Kind: d.kind, Run: number, A: slots / 4, B: slots % 4, N: n})
							if answer == 0 {
								spread(after, left-1)
							}
						}
					}
				}
			}
		}
		spread(table, 2)
		if comes < 100 {
			t.Errorf("only %d rights come to others in\n%s", comes, impl.TableText(table))
		}
	}
}

// TestP98Comes has scripts by which an object obtains what ReachAll says, so that less would not be enough.
func TestP98Comes(t *testing.T) {
	chain := []impl.Thing{
		page(0, 0), node(0), node(0), node(0), run(0, right(2, 0, "-w-"), right(1, 0, "rw-")), run(0, right(2, 0, "r-k"), right(3, 0, "-w-")),
		run(0, right(3, 0, "r--"), right(4, 0, "-w-")), run(0, right(4, 0, "r-k")),
	}
	loop := []impl.Thing{page(0, 0), node(0, right(3, 0, "r--")), node(0, right(2, 0, "rw-"), right(1, 0, "rw-")), run(0, right(2, 0, "r--"))}
	store, fetch := func(number, a, b int) impl.Call { return impl.Call{Kind: 5, Run: number, A: a, B: b} }, func(number, a, n int) impl.Call {
		return impl.Call{Kind: 4, Run: number, A: a, B: 3, N: n}
	}
	cases := []struct {
		what   string
		table  []impl.Thing
		calls  []impl.Call
		holder int
		want   impl.Right
	}{
		{"by one node", loop, []impl.Call{fetch(4, 0, 0)}, 4, right(3, 0, "r--")},
		{"by two nodes", loop, []impl.Call{fetch(4, 0, 0), fetch(4, 3, 1)}, 4, right(1, 0, "rw-")},
		{"back into the first node", loop, []impl.Call{fetch(4, 0, 0), fetch(4, 3, 0), store(4, 3, 0)}, 2, right(2, 0, "r--")},
		{"into a node", chain, []impl.Call{store(5, 0, 1)}, 2, right(1, 0, "rw-")},
		{"by a weak right", chain, []impl.Call{store(5, 0, 1), fetch(6, 0, 0)}, 6, right(1, 0, "r-k")},
		{"into the next node", chain, []impl.Call{store(5, 0, 1), fetch(6, 0, 0), store(6, 1, 3)}, 3, right(1, 0, "r-k")},
		{"to the next process", chain, []impl.Call{store(5, 0, 1), fetch(6, 0, 0), store(6, 1, 3), fetch(7, 0, 0)}, 7, right(1, 0, "r-k")},
		{"to the last process", chain, []impl.Call{store(5, 0, 1), fetch(6, 0, 0), store(6, 1, 3), fetch(7, 0, 0), store(7, 1, 3), fetch(8, 0, 0)}, 8, right(1, 0, "r-k")},
		{"writing to one that only read", chain, []impl.Call{store(6, 1, 1), fetch(7, 0, 0), store(7, 3, 0)}, 3, right(3, 0, "r--")},
	}
	for _, c := range cases {
		after, answers := runAll(t, c.table, c.calls)
		if slices.Max(answers) != 0 || slices.Min(answers) != 0 || !slices.Contains(after[c.holder-1].Slots, c.want) {
			t.Errorf("%s: object %d has not %v after %v in\n%s", c.what, c.holder, c.want, answers, impl.TableText(after))
		}
		if reach := impl.ReachAll(c.table)[c.holder-1]; !covered(reach, c.want) || covered(c.table[c.holder-1].Slots, c.want) {
			t.Errorf("%s: object %d comes to have %v, but can obtain %s", c.what, c.holder, c.want, textsOf(reach))
		}
	}
}

// TestP98NoScript has what is not a script: there is nothing afterwards that could have a right.
func TestP98NoScript(t *testing.T) {
	noScripts(func(what string, table []impl.Thing, calls []impl.Call) {
		if after, _, ok := impl.RunAll(table, calls); ok || len(after) != 0 {
			t.Errorf("%s: %v with %v", what, ok, after)
		}
	})
}

// TestP99NeverMoreAfterwards holds what can be obtained after a script, and within it, against what could be before.
func TestP99NeverMoreAfterwards(t *testing.T) {
	same, fewer := 0, 0
	for i, x := range spreads() {
		before := impl.ReachAll(x.table)
		state := 0
		check := func(after []impl.Thing) {
			later := impl.ReachAll(after)
			if !within(later, before) {
				t.Errorf("of %vfirst\n%scan be obtained, but of\n%s\n%s", x, reachText(before), impl.TableText(after), reachText(later))
			}
			for j := range later {
				for _, r := range later[j] {
					if !impl.ReachIn(before[j], r) {
						t.Errorf("of %vobject %d can first obtain %s, but then %v", x, j+1, textsOf(before[j]), r)
					}
				}
			}
			if sameReach(later, before) {
				same++
			} else {
				fewer++
			}
		}
		x.eachState(func(after []impl.Thing) {
			if state++; (state+i)%8 == 0 {
				check(after)
			}
		})
		after, _ := x.run(t)
		check(after)
	}
	if same < 1000 || fewer < 1000 {
		t.Errorf("as much can be obtained %d times, and less %d times", same, fewer)
	}
}

// TestP99EachCall has what can be obtained after a single call of each kind.
func TestP99EachCall(t *testing.T) {
	fewer := map[int]int{}
	check := func(p play) {
		before, later := impl.ReachAll(p.before), impl.ReachAll(p.after)
		if !within(later, before) {
			t.Errorf("%vmakes\n%sof\n%s", p, reachText(later), reachText(before))
		}
		if !sameReach(later, before) {
			fewer[p.call.Kind]++
		}
	}
	for i, table := range append(companies(), webs()...) {
		for _, number := range processesOf(table) {
			if i%13 == 0 {
				eachCallOf(table, number, check)
			}
		}
	}
	for _, kind := range []int{impl.CallCopy, impl.CallFetch, impl.CallStore, impl.CallRenew} {
		if fewer[kind] < 20 {
			t.Errorf("after %s, less can be obtained only %d times", demands[kind-1].name, fewer[kind])
		}
	}
	for _, kind := range []int{impl.CallRead, impl.CallWrite, impl.CallSend, impl.CallTake, impl.CallGate} {
		if fewer[kind] > 0 {
			t.Errorf("after %s, less can be obtained %d times", demands[kind-1].name, fewer[kind])
		}
	}
}

// TestP99Renewal has a node, behind which there is something, before it is renewed and after.
func TestP99Renewal(t *testing.T) {
	table := []impl.Thing{page(0, 0), node(4, right(1, 0, "rw-")), run(0, right(2, 4, "rw-")), run(0, right(2, 4, "r-k"))}
	want := []string{"", "1.0rw- 2.4rw-", "1.0rw- 2.4rw-", "1.0r-k 2.4r-k"}
	gone := []string{"", "", "2.4rw-", "2.4r-k"}
	after, answers := runAll(t, table, []impl.Call{{Kind: impl.CallRenew, Run: 3}})
	if answers[0] != 0 || after[1].Vers != 5 {
		t.Fatalf("the renewal is %v with\n%s", answers, impl.TableText(after))
	}
	for i := range table {
		if first, then := textsOf(impl.ReachAll(table)[i]), textsOf(impl.ReachAll(after)[i]); first != want[i] || then != gone[i] {
			t.Errorf("object %d can first obtain %q, want %q, and then %q, want %q", i+1, first, want[i], then, gone[i])
		}
	}
}

// TestP100AllPairs has lists of one right, and all rights.
func TestP100AllPairs(t *testing.T) {
	for _, one := range allRights() {
		for _, r := range allRights() {
			if got, want := impl.ReachIn([]impl.Right{one}, r), contained(r, one); got != want {
				t.Errorf("whether %v is in the list with %v is %v", r, one, got)
			}
		}
	}
}

// TestP100Lists has lists of several rights.
func TestP100Lists(t *testing.T) {
	luck := chance(100)
	rights := allRights()
	outcomes := map[bool]int{}
	for turn := range 400 {
		var list []impl.Right
		for range turn % 20 {
			list = append(list, rights[luck.below(len(rights))])
		}
		for _, r := range rights[1:] {
			got, want := impl.ReachIn(list, r), covered(list, r)
			outcomes[want]++
			if got != want {
				t.Errorf("whether %v is in the list %v is %v", r, list, got)
			}
		}
		if !impl.ReachIn(list, noRight) {
			t.Errorf("the null capability is not in the list %v", list)
		}
	}
	if outcomes[true] < 1000 || outcomes[false] < 1000 {
		t.Errorf("the outcomes are too few: %v", outcomes)
	}
}

func TestP100Examples(t *testing.T) {
	rw, r, w, weak := right(3, 2, "rw-"), right(3, 2, "r--"), right(3, 2, "-w-"), right(3, 2, "r-k")
	other := right(4, 2, "rw-")
	cases := []struct {
		list []impl.Right
		r    impl.Right
		want bool
	}{
		{nil, noRight, true},
		{nil, r, false},
		{nil, right(3, 2, "--k"), false},
		{[]impl.Right{noRight}, noRight, true},
		{[]impl.Right{noRight}, r, false},
		{[]impl.Right{noRight, noRight, rw}, r, true},
		{[]impl.Right{r, w}, rw, false},
		{[]impl.Right{w, weak}, r, false},
		{[]impl.Right{r, w}, r, true},
		{[]impl.Right{r, w}, w, true},
		{[]impl.Right{w, r}, weak, true},
		{[]impl.Right{other, w}, r, false},
		{[]impl.Right{other, rw}, r, true},
		{[]impl.Right{rw, other}, r, true},
		{[]impl.Right{other, rw, other}, r, true},
		{[]impl.Right{right(3, 1, "rw-"), right(3, 3, "rw-")}, r, false},
		{[]impl.Right{other, other, other, other, other, other, other, other, other, rw}, w, true},
		{[]impl.Right{weak}, right(3, 2, "---"), false},
		{[]impl.Right{w}, right(3, 2, "---"), true},
	}
	for _, c := range cases {
		if got := impl.ReachIn(c.list, c.r); got != c.want {
			t.Errorf("whether %v is in the list %v is %v", c.r, c.list, got)
		}
	}
}

// TestP100Invalid has lists with an invalid right at each place, also behind one that contains the right, and rights that are invalid.
func TestP100Invalid(t *testing.T) {
	valid := []impl.Right{right(3, 2, "rw-"), noRight, right(8, 5, "r-k"), right(1, 0, "r--")}
	for _, bad := range invalidRights() {
		for _, list := range [][]impl.Right{nil, {}, {noRight}, valid, {bad}, append(slices.Clone(valid), bad)} {
			if impl.ReachIn(list, bad) {
				t.Errorf("the invalid %v is in the list %v", bad, list)
			}
		}
		for place := range len(valid) + 1 {
			list := slices.Insert(slices.Clone(valid), place, bad)
			for _, r := range append([]impl.Right{right(3, 2, "r--")}, valid...) {
				if impl.ReachIn(list, r) {
					t.Errorf("%v is in the list %v with an invalid right", r, list)
				}
			}
		}
		if impl.ReachIn([]impl.Right{bad}, noRight) || impl.ReachIn([]impl.Right{bad, bad}, right(3, 2, "r--")) {
			t.Errorf("something is in a list with nothing but %v", bad)
		}
	}
	for _, r := range valid {
		if !impl.ReachIn(valid, r) {
			t.Errorf("%v is not in the list %v", r, valid)
		}
	}
}

// permits says whether one of a list permits to write an object, or to read it.
func permits(list []impl.Right, thing int, write bool) bool {
	return slices.ContainsFunc(list, func(r impl.Right) bool {
		return r.Thing == thing && (write && r.Write || !write && r.Read)
	})
}

// TestP101EachHolder has all holders and all objects, and the numbers beside them.
func TestP101EachHolder(t *testing.T) {
	type outcome struct {
		kind        int
		write, want bool
	}
	outcomes := map[outcome]int{}
	for i, table := range reachTables() {
		if i%5 > 0 {
			continue
		}
		reach, want := impl.ReachAll(table), wantReach(table)
		for holder := -1; holder <= 10; holder++ {
			for thing := -1; thing <= 10; thing++ {
				for _, write := range []bool{false, true} {
					got := impl.ReachTo(table, holder, thing, write)
					if holder < 1 || holder > len(table) || thing < 1 || thing > len(table) {
						if got {
							t.Errorf("object %d obtains access to object %d (writing is %v) in\n%s", holder, thing, write, impl.TableText(table))
						}
						continue
					}
					outcomes[outcome{table[holder-1].Kind, write, got}]++
					if got != permits(want[holder-1], thing, write) || got != permits(reach[holder-1], thing, write) {
						t.Errorf("whether object %d obtains access to object %d (writing is %v) is %v, but it can obtain %s in\n%s", holder, thing, write, got, textsOf(want[holder-1]), impl.TableText(table))
					}
				}
			}
		}
	}
	for kind := impl.KindPage; kind <= impl.KindGate; kind++ {
		holds := kind == impl.KindNode || kind == impl.KindRun
		for _, write := range []bool{false, true} {
			if outcomes[outcome{kind, write, false}] < 500 || holds != (outcomes[outcome{kind, write, true}] >= 500) {
				t.Errorf("the outcomes of kind %d (writing is %v) are too few, or too many: %v", kind, write, outcomes)
			}
		}
	}
}

func TestP101Examples(t *testing.T) {
	table := []impl.Thing{
		page(0, 2), node(1, right(1, 2, "rw-"), right(4, 0, "-w-"), right(6, 0, "---")), run(0, right(2, 1, "r-k"), right(5, 0, "-w-")), pipe(0), gate(0, 1), run(0, right(2, 1, "r--"), right(1, 1, "rw-"), right(7, 0, "rw-")), node(3, right(5, 0, "-w-")),
	}
	// By the number of the holder: what it can read, and what it can write.
	want := []struct{ reads, writes []int }{
		1: {}, 2: {[]int{1}, []int{1, 4}}, 3: {[]int{1, 2}, []int{5}}, 4: {}, 5: {}, 6: {[]int{1, 2, 7}, []int{1, 4, 7}}, 7: {[]int{}, []int{5}},
	}
	for holder := 1; holder <= 7; holder++ {
		for thing := 1; thing <= 7; thing++ {
			if got := impl.ReachTo(table, holder, thing, false); got != slices.Contains(want[holder].reads, thing) {
				t.Errorf("whether object %d can read object %d is %v", holder, thing, got)
			}
			if got := impl.ReachTo(table, holder, thing, true); got != slices.Contains(want[holder].writes, thing) {
				t.Errorf("whether object %d can write object %d is %v", holder, thing, got)
			}
		}
	}
}

// TestP101NumbersOutside has holders and objects that are not in the table, though there are rights with the same low bits.
func TestP101NumbersOutside(t *testing.T) {
	numbers := append(manyNumbers(), 0, math.MinInt+1, 1<<8+1, 1<<16+1, 1<<32+2)
	for count := 1; count <= 8; count++ {
		table := slices.Repeat([]impl.Thing{run(0)}, count)
		for i := range table {
			table[i] = run(0, right(1, 0, "rw-"), right(count, 0, "rw-"), right(i+1, 0, "rw-"))
		}
		for _, n := range numbers {
			if inside(n, [2]int{1, count}) {
				if !impl.ReachTo(table, n, 1, true) || !impl.ReachTo(table, 1, 1, false) || !impl.ReachTo(table, n, n, false) {
					t.Errorf("object %d of %d has no access to what it has", n, count)
				}
				continue
			}
			for _, write := range []bool{false, true} {
				if impl.ReachTo(table, n, 1, write) || impl.ReachTo(table, 1, n, write) || impl.ReachTo(table, n, n, write) || impl.ReachTo(table, n, 0, write) || impl.ReachTo(table, 0, n, write) {
					t.Errorf("the number %d counts in a table of %d", n, count)
				}
			}
		}
	}
}

func TestP101NoTable(t *testing.T) {
	check := func(what string, table []impl.Thing) {
		t.Helper()
		for holder := -1; holder <= 10; holder++ {
			for thing := -1; thing <= 10; thing++ {
				if impl.ReachTo(table, holder, thing, false) || impl.ReachTo(table, holder, thing, true) {
					t.Errorf("%s: object %d of %v obtains access to object %d", what, holder, table, thing)
				}
			}
		}
	}
	for what, table := range badTables() {
		check(what, table)
	}
	for _, plain := range companies() {
		for what, table := range broken(plain) {
			check(what, table)
		}
	}
}

// weakened is the table with all rights of processes made weak.
func weakened(table []impl.Thing) []impl.Thing {
	out := copyTable(table)
	for i := range out {
		for slot, r := range out[i].Slots {
			if out[i].Kind == 3 {
				out[i].Slots[slot] = lessened(r, 1)
			}
		}
	}
	return out
}

func TestP102WeakStaysWeak(t *testing.T) {
	comes := map[string]int{}
	for i, plain := range reachTables() {
		table := weakened(plain)
		reach := impl.ReachAll(table)
		for _, number := range processesOf(table) {
			for thing := 1; thing <= 8; thing++ {
				if impl.ReachTo(table, number, thing, true) {
					t.Errorf("process %d can come to write object %d in\n%s", number, thing, impl.TableText(table))
				}
			}
			for _, r := range reach[number-1] {
				if r.Write || !r.Weak {
					t.Errorf("process %d can obtain %v in\n%s", number, r, impl.TableText(table))
				}
				if !covered(table[number-1].Slots, r) {
					comes["what it had not"]++
				}
			}
			for _, used := range table[number-1].Slots {
				if liveNode(table, used) && used.Read && slices.ContainsFunc(table[used.Thing-1].Slots, func(r impl.Right) bool { return r.Write }) {
					comes["what is writable in the node"]++
				}
			}
		}
		after, _ := runAll(t, table, spreadScript(table, 20, i))
		for _, number := range processesOf(table) {
			if slices.ContainsFunc(after[number-1].Slots, func(r impl.Right) bool { return r.Write || r != noRight && !r.Weak }) {
				t.Errorf("process %d has %v after a script in\n%s", number, after[number-1].Slots, impl.TableText(table))
			}
		}
	}
	if comes["what it had not"] < 500 || comes["what is writable in the node"] < 500 {
		t.Errorf("too little comes: %v", comes)
	}
}

// TestP102OneStrongIsEnough holds that it matters that all rights of all processes are weak.
func TestP102OneStrongIsEnough(t *testing.T) {
	table := []impl.Thing{page(0, 0), node(0, right(1, 0, "rw-"), right(2, 0, "rw-")), run(0, right(2, 0, "r-k")), run(0, right(2, 0, "r-k"), noRight, noRight, right(2, 0, "--k"))}
	for _, number := range []int{3, 4} {
		for thing := 1; thing <= 4; thing++ {
			if impl.ReachTo(table, number, thing, true) {
				t.Errorf("process %d can come to write object %d", number, thing)
			}
		}
		strong := with(table, number-1, func(x *impl.Thing) { x.Slots[0].Weak = false })
		if !impl.ReachTo(strong, number, 1, true) || !impl.ReachTo(strong, number, 2, true) || impl.ReachTo(strong, 7-number, 1, true) {
			t.Errorf("with a strong right, process %d can obtain %v", number, impl.ReachAll(strong))
		}
	}
}

// TestP103OneMore gives processes each further right to each node and page, in each version.
func TestP103OneMore(t *testing.T) {
	more, same := 0, 0
	for i, table := range append(companies(), webs()...) {
		if i%7 > 0 && i > 50 {
			continue
		}
		before := impl.ReachAll(table)
		for _, number := range processesOf(table) {
			slot := slices.Index(table[number-1].Slots, noRight)
			if slot < 0 {
				continue
			}
			for thing, object := range table {
				if object.Kind != impl.KindNode && object.Kind != impl.KindPage {
					continue
				}
				for vers := range object.Vers + 1 {
					for _, letters := range rightLetters {
						larger := with(table, number-1, func(x *impl.Thing) { x.Slots[slot] = right(thing+1, vers, letters) })
						after := impl.ReachAll(larger)
						if !within(before, after) {
							t.Errorf("with %v for process %d,\n%scan be obtained, but before\n%sin\n%s", right(thing+1, vers, letters), number, reachText(after), reachText(before), impl.TableText(table))
						}
						if within(after, before) {
							same++
						} else {
							more++
						}
					}
				}
			}
		}
	}
	if more < 1000 || same < 1000 {
		t.Errorf("more can be obtained %d times, and the same %d times", more, same)
	}
}

// TestP103InAnyFreeSlot holds that it does not matter in which free slot a further right is.
func TestP103InAnyFreeSlot(t *testing.T) {
	table := []impl.Thing{page(0, 0), node(3, right(1, 0, "rw-"), right(5, 1, "r--")), run(0), run(0, right(2, 3, "r-k")), node(1, right(6, 0, "-w-")), page(0, 0)}
	before := impl.ReachAll(table)
	for _, number := range []int{3, 4} {
		for _, r := range []impl.Right{right(2, 3, "rw-"), right(2, 3, "-w-"), right(5, 1, "r--"), right(6, 0, "rw-"), right(2, 2, "rw-")} {
			var want [][]impl.Right
			for slot, was := range table[number-1].Slots {
				if was != noRight {
					continue
				}
				larger := with(table, number-1, func(x *impl.Thing) { x.Slots[slot] = r })
				got := impl.ReachAll(larger)
				if want == nil {
					want = got
				}
				if !within(before, got) || !sameReach(got, want) || !covered(got[number-1], r) {
					t.Errorf("with %v in slot %d of process %d,\n%scan be obtained, but before\n%s", r, slot, number, reachText(got), reachText(before))
				}
			}
		}
	}
}

// TestP104EachNode holds what a process can obtain against what is in the nodes that it can read.
func TestP104EachNode(t *testing.T) {
	strong, weak := 0, 0
	for _, table := range reachTables() {
		reach := impl.ReachAll(table)
		for _, number := range processesOf(table) {
			for _, used := range table[number-1].Slots {
				if !liveNode(table, used) || !used.Read {
					continue
				}
				for _, r := range table[used.Thing-1].Slots {
					if used.Weak {
						r = impl.RightLess(r, true, false, false)
					}
					if r != noRight && used.Weak {
						weak++
					} else if r != noRight {
						strong++
					}
					if !impl.ReachIn(reach[number-1], r) || !covered(reach[number-1], r) {
						t.Errorf("process %d can obtain %s, but not %v in\n%s", number, textsOf(reach[number-1]), r, impl.TableText(table))
					}
				}
			}
		}
	}
	if strong < 500 || weak < 500 {
		t.Errorf("only %d rights are in nodes that are read, and %d in those that are read weakly", strong, weak)
	}
}

// TestP104EachSlot has a right in each slot of a node, and the right to the node in each slot of the process.
func TestP104EachSlot(t *testing.T) {
	for slots := range 16 {
		for _, used := range append([]string{"gone"}, rightLetters...) {
			for _, letters := range rightLetters {
				table := []impl.Thing{run(0), node(1), pipe(2)}
				link := right(2, 0, "rw-")
				if used != "gone" {
					link = right(2, 1, used)
				}
				table[0].Slots[slots/4] = link
				table[1].Slots[slots%4] = right(3, 2, letters)
				want := []impl.Right{link}
				switch used {
				case "r--", "rw-":
					want = []impl.Right{link, right(3, 2, letters)}
				case "r-k":
					want = []impl.Right{link, lessened(right(3, 2, letters), 1)}
				}
				if got := impl.ReachAll(table)[0]; !slices.Equal(got, want) {
					t.Errorf("the process of\n%scan obtain %v, want %v", impl.TableText(table), got, want)
				}
			}
		}
	}
}

func TestP105WhoHasNone(t *testing.T) {
	none, reads := map[int]int{}, 0
	for _, table := range reachTables() {
		reach := impl.ReachAll(table)
		for i, thing := range table {
			if thing.Kind == impl.KindPage || thing.Kind == impl.KindPipe || thing.Kind == impl.KindGate {
				none[thing.Kind]++
				if len(reach[i]) > 0 {
					t.Errorf("object %d can obtain %v in\n%s", i+1, reach[i], impl.TableText(table))
				}
				for number := 1; number <= len(table); number++ {
					if impl.ReachTo(table, i+1, number, false) || impl.ReachTo(table, i+1, number, true) {
						t.Errorf("object %d can obtain access to object %d in\n%s", i+1, number, impl.TableText(table))
					}
				}
			}
			for _, r := range thing.Slots {
				if r.Read {
					reads++
				}
				if r.Read && !impl.ReachTo(table, i+1, r.Thing, false) || r.Write && !impl.ReachTo(table, i+1, r.Thing, true) {
					t.Errorf("object %d has %v, but can obtain no access to object %d in\n%s", i+1, r, r.Thing, impl.TableText(table))
				}
			}
		}
	}
	for _, kind := range []int{impl.KindPage, impl.KindPipe, impl.KindGate} {
		if none[kind] < 100 {
			t.Errorf("only %d objects of kind %d", none[kind], kind)
		}
	}
	if reads < 1000 {
		t.Errorf("only %d rights are readable", reads)
	}
}

// TestP105EachRight has a process with each right to an object of each kind, in its current version and in an earlier one.
func TestP105EachRight(t *testing.T) {
	for _, s := range shapes {
		for _, letters := range rightLetters {
			for vers := 0; vers <= s.vers[1]; vers++ {
				object := s.plain()
				object.Vers = s.vers[1]
				table := []impl.Thing{page(0, 0), object, run(0, noRight, right(2, vers, letters))}
				reads, writes := impl.ReachTo(table, 3, 2, false), impl.ReachTo(table, 3, 2, true)
				if reads != strings.Contains(letters, "r") || writes != strings.Contains(letters, "w") {
					t.Errorf("with %s to version %d of a %s, reading is %v and writing %v", letters, vers, s.name, reads, writes)
				}
				if impl.ReachTo(table, 3, 1, false) || impl.ReachTo(table, 3, 1, true) || impl.ReachTo(table, 3, 3, false) {
					t.Errorf("with %s to a %s, there is access to others", letters, s.name)
				}
			}
		}
	}
}

// TestP106NoNodes has processes from which the rights to nodes are taken away, among others that keep theirs.
func TestP106NoNodes(t *testing.T) {
	processes, others := 0, 0
	for _, plain := range reachTables() {
		for _, number := range processesOf(plain) {
			table := with(plain, number-1, func(x *impl.Thing) {
				for slot, r := range x.Slots {
					if r != noRight && plain[r.Thing-1].Kind == impl.KindNode {
						x.Slots[slot] = noRight
					}
				}
			})
			reach := impl.ReachAll(table)
			own := table[number-1].Slots
			if len(reach[number-1]) > 0 {
				processes++
			}
			for _, r := range reach[number-1] {
				if !slices.Contains(own, r) {
					t.Errorf("process %d can obtain %v in\n%s", number, r, impl.TableText(table))
				}
			}
			for _, other := range processesOf(table) {
				if other != number && !within([][]impl.Right{reach[other-1]}, [][]impl.Right{table[other-1].Slots}) {
					others++
				}
			}
		}
	}
	if processes < 500 || others < 500 {
		t.Errorf("only %d processes have rights but to no node, and %d others obtain what they had not", processes, others)
	}
}

// TestP106OthersCannotGive has a process to which nothing leads, though others have rights to it, and it is in their nodes.
func TestP106OthersCannotGive(t *testing.T) {
	for _, letters := range rightLetters {
		table := []impl.Thing{
			page(0, 0), node(0, right(3, 0, letters), right(1, 0, "rw-")), run(0, right(1, 0, "r--"), right(5, 0, "rw-"), right(3, 0, letters)), run(0, right(2, 0, "rw-"), right(3, 0, letters)), run(0, right(2, 0, "rw-"), right(1, 0, letters)),
		}
		want := []impl.Right{right(1, 0, "r--"), right(3, 0, letters), right(5, 0, "rw-")}
		if got := impl.ReachAll(table)[2]; !slices.Equal(got, want) {
			t.Errorf("the process can obtain %v, want %v", got, want)
		}
	}
}

// TestP107Order holds that the texts ascend, and so that none is there twice.
func TestP107Order(t *testing.T) {
	pairs := 0
	for _, table := range reachTables() {
		for i, list := range impl.ReachAll(table) {
			for j := 1; j < len(list); j++ {
				pairs++
				if impl.RightText(list[j-1]) >= impl.RightText(list[j]) || textOf(list[j-1]) >= textOf(list[j]) {
					t.Errorf("object %d can obtain %s in\n%s", i+1, textsOf(list), impl.TableText(table))
				}
			}
		}
	}
	if pairs < 5000 {
		t.Errorf("only %d pairs", pairs)
	}
}

// TestP107AllPairs has a process with each two rights to two objects with versions, in either order; if one contains the other, as where their texts differ in one letter alone, it is alone.
func TestP107AllPairs(t *testing.T) {
	var rights []impl.Right
	for thing := 1; thing <= 2; thing++ {
		for vers := 0; vers <= 5; vers++ {
			for _, letters := range rightLetters {
				rights = append(rights, right(thing, vers, letters))
			}
		}
	}
	kept := map[int]int{}
	for _, a := range rights {
		for _, b := range rights {
			table := []impl.Thing{page(0, 5), pipe(5), run(0, a, noRight, b)}
			want := []impl.Right{a, b}
			switch {
			case contained(a, b):
				want = []impl.Right{b}
			case contained(b, a):
				want = []impl.Right{a}
			case textOf(a) > textOf(b):
				want = []impl.Right{b, a}
			}
			kept[len(want)]++
			if got := impl.ReachAll(table)[2]; !slices.Equal(got, want) {
				t.Errorf("with %v and %v, %v can be obtained", a, b, got)
			}
		}
	}
	if kept[1] < 100 || kept[2] < 1000 {
		t.Errorf("the outcomes are too few: %v", kept)
	}
}

// TestP107AllSlots has the same four rights in all orders of the slots, of a process and of a node behind it.
func TestP107AllSlots(t *testing.T) {
	rights := []impl.Right{right(1, 0, "-w-"), right(1, 0, "r-k"), right(1, 1, "r--"), right(3, 0, "---")}
	want := "1.0-w- 1.0r-k 1.1r-- 3.0---"
	orders := 0
	for order := range 256 {
		places := []int{order % 4, order / 4 % 4, order / 16 % 4, order / 64}
		if len(slices.Compact(slices.Sorted(slices.Values(places)))) < 4 {
			continue
		}
		orders++
		var slots []impl.Right
		for _, place := range places {
			slots = append(slots, rights[place])
		}
		table := []impl.Thing{page(0, 1), node(0, slots...), run(0, slots...), run(0, right(2, 0, "r--"))}
		reach := impl.ReachAll(table)
		if textsOf(reach[1]) != want || textsOf(reach[2]) != want || textsOf(reach[3]) != "1.0-w- 1.0r-k 1.1r-- 2.0r-- 3.0---" {
			t.Errorf("with the slots %v, there are\n%s", slots, reachText(reach))
		}
	}
	if orders != 24 {
		t.Errorf("only %d orders", orders)
	}
}

// TestP107Copying has each copy, also a restricted one, to a free slot, and to one with a right that another one contains.
func TestP107Copying(t *testing.T) {
	free, contains := 0, 0
	for i, table := range append(companies(), webs()...) {
		if i%5 > 0 && i > 50 {
			continue
		}
		want := impl.ReachAll(table)
		for _, number := range processesOf(table) {
			slots := table[number-1].Slots
			for a := range 4 {
				for b := range 4 {
					others := slices.Delete(slices.Clone(slots), b, b+1)
					if a == b || !covered(others, slots[b]) {
						continue
					}
					if slots[b] == noRight {
						free++
					} else {
						contains++
					}
					for n := range 8 {
						after, answer := impl.CallDo(table, impl.Call{Kind: impl.CallCopy, Run: number, A: a, B: b, N: n})
						if got := impl.ReachAll(after); answer != 0 || !sameReach(got, want) {
							t.Errorf("copying slot %d to slot %d of process %d with %d makes\n%sof\n%sin\n%s", a, b, number, n, reachText(got), reachText(want), impl.TableText(table))
						}
					}
				}
			}
		}
	}
	if free < 500 || contains < 100 {
		t.Errorf("only %d copies to free slots, and %d to others", free, contains)
	}
}

// TestP108Never holds that, if ReachTo is false, an object has no such right in the course of a script.
func TestP108Never(t *testing.T) {
	type outcome struct{ write, said, had bool }
	outcomes := map[outcome]int{}
	for i, x := range spreads() {
		if i%7 > 0 {
			continue
		}
		count := len(x.table)
		// For each holder and object: whether it can ever be read or written, and whether it could be.
		said, had := make([][2]bool, count*count), make([][2]bool, count*count)
		for i := range said {
			for j, write := range []bool{false, true} {
				said[i][j] = impl.ReachTo(x.table, i/count+1, i%count+1, write)
			}
		}
		check := func(after []impl.Thing) {
			for holder, thing := range after {
				for _, r := range thing.Slots {
					if r == noRight {
						continue
					}
					i := holder*count + r.Thing - 1
					had[i] = [2]bool{had[i][0] || r.Read, had[i][1] || r.Write}
				}
			}
		}
		x.eachState(check)
		after, _ := x.run(t)
		check(after)
		for i := range said {
			for j, write := range []bool{false, true} {
				outcomes[outcome{write, said[i][j], had[i][j]}]++
				if had[i][j] && !said[i][j] {
					t.Errorf("object %d has access to object %d (writing is %v) in the course of %v", i/count+1, i%count+1, write, x)
				}
			}
		}
	}
	for _, write := range []bool{false, true} {
		if outcomes[outcome{write, true, true}] < 1000 || outcomes[outcome{write, false, false}] < 1000 {
			t.Errorf("the outcomes are too few: %v", outcomes)
		}
	}
}

// TestP108Examples has a page behind a node, to which one process comes and others do not.
func TestP108Examples(t *testing.T) {
	table := []impl.Thing{
		page(50, 0), node(1, right(1, 0, "rw-")), run(0, right(2, 1, "r--")), run(0, right(2, 1, "r-k")), run(0, right(2, 1, "-w-")), run(0, right(2, 0, "rw-")),
	}
	want := []struct{ reads, writes bool }{3: {true, true}, 4: {true, false}, 5: {false, false}, 6: {false, false}}
	for number := 3; number <= 6; number++ {
		if impl.ReachTo(table, number, 1, false) != want[number].reads || impl.ReachTo(table, number, 1, true) != want[number].writes {
			t.Errorf("process %d can obtain %s", number, textsOf(impl.ReachAll(table)[number-1]))
		}
		_, answers := runAll(t, table, []impl.Call{{Kind: 4, Run: number, B: 1}, {Kind: 1, Run: number, A: 1}, {Kind: 2, Run: number, A: 1, N: 7}})
		if (answers[1] == 50) != want[number].reads || (answers[2] == 0) != want[number].writes {
			t.Errorf("the calls of process %d are %v", number, answers)
		}
	}
}

// reachResults is what the functions return.
type reachResults struct {
	all [][]impl.Right
	to  [10][2]bool
}

func reachResultsOf(table []impl.Thing) reachResults {
	out := reachResults{all: impl.ReachAll(table)}
	for holder := range 10 {
		thing := (7*holder + 2) % 10
		out.to[holder] = [2]bool{impl.ReachTo(table, holder, thing, false), impl.ReachTo(table, holder, thing, true)}
	}
	return out
}

func (r reachResults) same(other reachResults) bool {
	return sameReach(r.all, other.all) && r.to == other.to
}

// copied is the same results in other memory.
func (r reachResults) copied() reachResults {
	r.all = slices.Clone(r.all)
	for i, list := range r.all {
		r.all[i] = slices.Clone(list)
	}
	return r
}

// overwrite changes all that can be reached from the results, also behind the ends of slices.
func (r reachResults) overwrite() {
	lists := r.all[:cap(r.all)]
	for i, list := range lists {
		list = list[:cap(list)]
		for j := range list {
			list[j] = right(7, 3, "rwk")
		}
		lists[i] = []impl.Right{right(9, i, "---")}
	}
}

// fewReachTables has tables, and what is none.
func fewReachTables() [][]impl.Thing {
	out := everyTable()
	for i, table := range reachTables() {
		if i%9 == 0 {
			out = append(out, table)
		}
	}
	return out
}

// TestP97ArgumentsStay holds that no function changes its arguments, nor minds what is behind the ends of slices.
func TestP97ArgumentsStay(t *testing.T) {
	for _, plain := range fewReachTables() {
		table := roomy(plain)
		before := whole(table)
		if got, want := reachResultsOf(table), reachResultsOf(plain); !got.same(want) {
			t.Errorf("what is behind the ends of slices changes what can be obtained in %v", plain)
		}
		if !reflect.DeepEqual(whole(table), before) {
			t.Errorf("the argument is changed from %v to %v", before, whole(table))
		}
	}
	rights := allRights()
	for i := range rights {
		list := append([]impl.Right{rights[i], rights[(7*i+3)%len(rights)], rights[len(rights)-1-i]}, right(9, 9, "rwk"), right(1, 1, "r--"))[:3]
		before := slices.Clone(list[:5])
		for _, r := range rights {
			if impl.ReachIn(list, r) != covered(list, r) || !slices.Equal(list[:5], before) {
				t.Errorf("ReachIn minds what is behind the list %v, or changes it to %v", before, list[:5])
			}
		}
	}
}

// TestP97ResultsShareNoMemory holds that neither an argument nor another result changes with a result, nor the result with an argument.
func TestP97ResultsShareNoMemory(t *testing.T) {
	for _, plain := range fewReachTables() {
		table := roomy(plain)
		before := whole(table)
		first, second := reachResultsOf(table), reachResultsOf(table)
		want := first.copied()
		second.overwrite()
		if !first.same(want) || !reflect.DeepEqual(whole(table), before) {
			t.Errorf("a result shares memory with %v or with another result", plain)
		}
		overwrite(table)
		if !first.same(want) || !reachResultsOf(plain).same(want) {
			t.Errorf("the result changes with %v", plain)
		}
	}
}

// TestP97ListsShareNoMemory holds that no list of a result changes with another one, also where one slice is in several objects of the argument.
func TestP97ListsShareNoMemory(t *testing.T) {
	slots := []impl.Right{right(1, 0, "r--"), right(5, 0, "rw-"), right(2, 0, "rw-"), {}}
	shared := []impl.Thing{{Kind: 2, Slots: slots}, {Kind: 3, Slots: slots}, {Kind: 2, Slots: slots}, {Kind: 3, Slots: slots}, page(0, 0)}
	for _, table := range append(fewReachTables(), shared) {
		for i, list := range impl.ReachAll(table) {
			reach := impl.ReachAll(table)
			want := reachResults{all: reach}.copied()
			for j := range reach[i][:cap(reach[i])] {
				reach[i][:cap(reach[i])][j] = right(6, 6, "rwk")
			}
			_ = append(reach[i], right(6, 6, "rwk"))
			reach[i] = list
			if !sameReach(reach, want.all) {
				t.Fatalf("list %d of the result for %v shares memory with another one", i, table)
			}
		}
	}
}

// TestP97TwiceTheSame holds that calls return the same in the same order, and the same ever again.
func TestP97TwiceTheSame(t *testing.T) {
	for _, table := range fewReachTables() {
		want := reachResultsOf(table).copied()
		for range 3 {
			if got := reachResultsOf(table); !got.same(want) {
				t.Fatalf("%v can be obtained, and then %v in %v", want.all, got.all, table)
			}
		}
	}
	for _, example := range reachExamples {
		want := impl.ReachAll(example.table)
		for range 50 {
			if got := impl.ReachAll(example.table); !sameReach(got, want) {
				t.Fatalf("%s: first\n%sand then\n%s", example.what, reachText(want), reachText(got))
			}
		}
	}
}

// TestP97NilIsEmpty holds that a nil slice and an empty one count as the same.
func TestP97NilIsEmpty(t *testing.T) {
	for _, plain := range fewReachTables() {
		one, other := copyTable(plain), copyTable(plain)
		for i, thing := range plain {
			if len(thing.Slots) == 0 {
				one[i].Slots, other[i].Slots = nil, []impl.Right{}
			}
			if len(thing.Queue) == 0 {
				one[i].Queue, other[i].Queue = nil, []int{}
			}
		}
		if !reachResultsOf(one).same(reachResultsOf(other)) {
			t.Errorf("what can be obtained in %v depends on nil slices", plain)
		}
	}
	for _, empty := range [][]impl.Thing{nil, {}} {
		if !reachResultsOf(empty).same(reachResults{}) {
			t.Errorf("%#v counts as a table", empty)
		}
	}
	for _, r := range append(allRights(), invalidRights()[:100]...) {
		if one, other := impl.ReachIn(nil, r), impl.ReachIn([]impl.Right{}, r); one != other || one != (r == noRight) {
			t.Errorf("%v is in a nil list: %v, and in an empty one: %v", r, one, other)
		}
	}
}

// TestP97AtTheSameTime has calls at the same time, with one table.
func TestP97AtTheSameTime(t *testing.T) {
	table := reachExamples[len(reachExamples)-1].table
	want := reachResultsOf(table)
	var all sync.WaitGroup
	for range 8 {
		all.Go(func() {
			for range 50 {
				if !reachResultsOf(table).same(want) || !impl.ReachIn(want.all[0], right(8, 0, "r--")) {
					t.Errorf("calls at the same time return something else")
				}
			}
		})
	}
	all.Wait()
}
