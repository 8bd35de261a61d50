package scope_test

import (
	"strconv"
	"strings"
	"testing"

	"noria/api"
	"noria/scope"
)

// rows are all rows of up to n of l.
func rows(l []string, n int) [][]string {
	all := [][]string{nil}
	for from := 0; n > 0; n-- {
		to := len(all)
		for _, row := range all[from:to] {
			for _, s := range l {
				all = append(all, append(row[:len(row):len(row)], s))
			}
		}
		from = to
	}
	return all
}

// P15.3: of all equations that a node may have, up to three, just those are let be by which each output and other variable is defined once, and nothing else.
func TestDefinedOnce(t *testing.T) {
	var heads []string
	for _, row := range rows([]string{"a", "y", "z", "v", "nope"}, 2)[1:] {
		heads = append(heads, strings.Join(row, ", "))
	}
	heads = append(heads, "z, v, y", "y, z, v")
	well := 0
	for _, l := range rows(heads, 3) {
		s := "node f(a: int) returns (y: int) let y = a; tel node g(a: int) returns (y: int; z: int) var v: int; let "
		defined := map[string]int{}
		for _, head := range l {
			s += head + " = f(a); "
			for _, name := range strings.Split(head, ", ") {
				defined[name]++
			}
		}
		p := program(t, s+"tel")
		once := len(defined) == 3 && defined["y"] == 1 && defined["z"] == 1 && defined["v"] == 1
		f := scope.Check(p)
		if (f == fine()) != once {
			t.Fatalf("%s: %+v", s, f)
		}
		if f != reckoned(p) {
			t.Fatalf("%s: %+v, not %+v", s, f, reckoned(p))
		}
		if once {
			well++
			laws(t, s, p)
		}
	}
	// Each of the six orders in three equations, in one and two, in two and one; two in one equation.
	if well != 6+6+6+2 {
		t.Fatalf("%d are let be", well)
	}
}

// P15.3: of all calls that four nodes may have of one another just those are let be that lead to a node ahead, so that none of them calls itself, however far round.
func TestNoRound(t *testing.T) {
	const size = 4
	name := func(i int) string { return "n" + strconv.Itoa(i) }
	// Each node, with each choice of calls: a bit for each node that it calls.
	var nodes [size][1 << size]api.Node
	for i := range size {
		for calls := range nodes[i] {
			s := "node " + name(i) + "(a: int) returns (y: int) let y = a"
			for j := range size {
				if calls>>j&1 > 0 {
					s += " + " + name(j) + "(a)"
				}
			}
			nodes[i][calls] = program(t, s+"; tel").Nodes[0]
		}
	}
	around, well := 0, 0
	for all := range 1 << (size * size) {
		var p api.Program
		ahead := true
		for i := range size {
			calls := all >> (i * size) % (1 << size)
			p.Nodes = append(p.Nodes, nodes[i][calls])
			ahead = ahead && calls < 1<<i
		}
		f := scope.Check(p)
		if (f == fine()) != ahead {
			t.Fatalf("%+v: %s", f, cut(p))
		}
		for i := range size {
			if round(p, i) {
				around++
				if f.Err != api.ErrNone || f.Eq != 0 {
					t.Fatalf("%+v: %s", f, cut(p))
				}
			}
		}
		if ahead {
			well++
			laws(t, "calls", p)
		}
	}
	if around < 10000 || well != 1<<6 {
		t.Errorf("%d go round, %d are let be", around, well)
	}
}

// P15.3: a round of as many nodes as may be is refused, wherever it begins.
func TestGreatRound(t *testing.T) {
	for first := range 6 {
		s := ""
		for i := range 6 {
			s += "node n" + strconv.Itoa((first+i)%6) + "() returns (y: int) let y = n" + strconv.Itoa((first+i+5)%6) + "(); tel "
		}
		tells(t, s, fault(0, 0, api.ErrNone))
		// Without its first call it is none.
		tells(t, strings.Replace(s, "n"+strconv.Itoa((first+5)%6)+"();", "1;", 1), fine())
	}
}
