package scope_test

import (
	"strconv"
	"strings"
	"testing"

	"noria/api"
)

// piece is a piece of a node's text, and what is wrong with it.
type piece struct {
	text string
	err  api.Errno
}

// clocks are declarations of a variable h.
func clocks() []piece {
	return []piece{
		{"h: int;", api.OK}, {"h: int when Up(a);", api.OK},
		{"h: int when nope;", api.ErrNone}, {"h: int when Nope(a);", api.ErrNone}, {"h: int when Nope(nope);", api.ErrNone},
	}
}

// equations are such of a variable y$; some of those that are wrong leave it without one.
func equations() []piece {
	return []piece{
		{"y$ = a;", api.OK}, {"y$ = f(y0, y1) every y2;", api.OK},
		{"y$ = nope;", api.ErrNone}, {"y$ = 'a';", api.ErrNone}, {"y$ = gone(a);", api.ErrNone}, {"y$ = 1 + Nope;", api.ErrNone}, {"y$ = nope + Nope;", api.ErrNone},
		{"nope = a;", api.ErrNone}, {"nope = gone(nope);", api.ErrNone}, {"y$, nope = f(a);", api.ErrNone}, {"nope, a = f(a);", api.ErrNone},
		{"a = 1;", api.ErrThere}, {"a = nope;", api.ErrThere}, {"y$, y$ = f(nope);", api.ErrThere}, {"a, nope = f(a);", api.ErrThere}, {"y$, a = gone(Nope);", api.ErrThere},
	}
}

// ends are equations of a variable z, if there is one.
func ends() []piece {
	return []piece{{"z = 1;", api.OK}, {"", api.ErrNone}}
}

// first is what is wrong first with the node 1, if l are its pieces, in the order in which they are asked: its clock, its equations, what is not defined.
func first(l []piece) api.Fault {
	for i, x := range l {
		if x.err != api.OK {
			eq := i - 1
			if i == len(l)-1 {
				eq = -1
			}
			return fault(1, eq, x.err)
		}
	}
	return fine()
}

// P15.2: of several that are wrong in a node its clocks are told ahead of its equations, these in their order, Names ahead of E, and what is not defined last.
func TestFirstInNode(t *testing.T) {
	for _, clock := range clocks() {
		for _, a := range equations() {
			for _, b := range equations() {
				for _, c := range equations() {
					for _, end := range ends() {
						s := "enum way { Up }; node f(a: int) returns (y: int) let y = a; tel node g(a: int) returns (y0: int; y1: int; y2: int; z: int) var " + clock.text + " let "
						for i, q := range []piece{a, b, c} {
							s += strings.ReplaceAll(q.text, "$", strconv.Itoa(i))
						}
						s += "h = 1;" + end.text + " tel"
						answers(t, s, program(t, s), first([]piece{clock, a, b, c, {}, end}))
					}
				}
			}
		}
	}
}

// bodies are nodes' texts behind their names, all of which have something else, or nothing, that is wrong.
func bodies() []struct {
	text string
	eq   int
	err  api.Errno
} {
	return []struct {
		text string
		eq   int
		err  api.Errno
	}{
		{"(a: int) returns (y: int) let y = a; tel", 0, api.OK},
		{"(a: int) returns (y: int) var h: int when true(nope); let y = a; h = 1; tel", -1, api.ErrNone},
		{"(a: int) returns (y: int) var h: int when Nope(a); let y = a; h = 1; tel", -1, api.ErrNone},
		{"(a: int) returns (y: int) let nope = a; y = a; tel", 0, api.ErrNone},
		{"(a: int) returns (y: int) let y = a; nope = a; tel", 1, api.ErrNone},
		{"(a: int) returns (y: int) let y = a; a = 1; tel", 1, api.ErrThere},
		{"(a: int) returns (y: int) let y = a; y = a; tel", 1, api.ErrThere},
		{"(a: int) returns (y: int) var h: int; let y = a; h = 1; h = h; tel", 2, api.ErrThere},
		{"(a: int) returns (y: int) let y = a + nope; tel", 0, api.ErrNone},
		{"(a: int) returns (y: int) var h: int; let y = a; h = pre Nope; tel", 1, api.ErrNone},
		{"(a: int) returns (y: int) let y = gone(a); tel", 0, api.ErrNone},
		{"(a: int) returns (y: int) let y = 'a'; tel", 0, api.ErrNone},
		{"(a: int) returns (y: int) let tel", -1, api.ErrNone},
		{"(a: int) returns (y: int) var h: int; let y = h; tel", -1, api.ErrNone},
	}
}

// P15.2: of several nodes of which something is wrong the first one's is told, whatever it is.
func TestFirstOfNodes(t *testing.T) {
	for _, a := range bodies() {
		for _, b := range bodies() {
			for _, c := range bodies() {
				want := fine()
				switch {
				case a.err != api.OK:
					want = fault(0, a.eq, a.err)
				case b.err != api.OK:
					want = fault(1, b.eq, b.err)
				case c.err != api.OK:
					want = fault(2, c.eq, c.err)
				}
				s := "node f" + a.text + " node g" + b.text + " node h" + c.text
				answers(t, s, program(t, s), want)
			}
		}
	}
}

// P15.2: whichever of as many nodes as may be is wrong, that one is told, and alone it is the first.
func TestOneOfNodes(t *testing.T) {
	for i := range 6 {
		for _, body := range bodies() {
			s := ""
			for j := range 6 {
				text := bodies()[0].text
				if i == j {
					text = body.text
				}
				s += "node n" + strconv.Itoa(j) + text + " "
			}
			want := fine()
			if body.err != api.OK {
				want = fault(i, body.eq, body.err)
			}
			tells(t, s, want)
			want.Node = 0
			tells(t, "node n"+body.text, want)
		}
	}
}

// P15.2: two things are wrong, each ahead of the other one.
func TestFirstOfTwo(t *testing.T) {
	for s, want := range map[string]api.Fault{
		// A clock and an equation.
		"node f(a: int) returns (y: int) var h: int when nope; let a = 1; y = 1; h = 1; tel":      fault(0, -1, api.ErrNone),
		"node f(a: int) returns (y: int) var h: int when a; let h = nope; y = 1; tel":             fault(0, 0, api.ErrNone),
		"node f(a: int) returns (y: int) var g: int when a; h: int when Up(a); let a = 1; tel":    fault(0, -1, api.ErrNone),
		"node f(a: int) returns (y: int) var h: int when Up(a); g: int when a; let y = nope; tel": fault(0, -1, api.ErrNone),
		// Names and E.
		"node f(a: int) returns (y: int) let a = nope; tel":          fault(0, 0, api.ErrThere),
		"node f(a: int) returns (y: int) let nope = a; a = 1; tel":   fault(0, 0, api.ErrNone),
		"node f(a: int) returns (y: int) let y = nope; a = 1; tel":   fault(0, 0, api.ErrNone),
		"node f(a: int) returns (y: int) let nope, a = f(a); tel":    fault(0, 0, api.ErrNone),
		"node f(a: int) returns (y: int) let a, nope = f(a); tel":    fault(0, 0, api.ErrThere),
		"node f(a: int) returns (y: int) let y, y = f(a); tel":       fault(0, 0, api.ErrThere),
		"node f(a: int) returns (y: int) let y, nope, y = f(a); tel": fault(0, 0, api.ErrNone),
		"node f(a: int) returns (y: int) let y, y, nope = f(a); tel": fault(0, 0, api.ErrThere),
		// Two equations.
		"node f(a: int) returns (y: int) let y = 1; y = nope; nope = 1; tel": fault(0, 1, api.ErrThere),
		"node f(a: int) returns (y: int) let y = nope; y = 1; tel":           fault(0, 0, api.ErrNone),
		"node f(a: int) returns (y: int) let nope = 1; y = 1; y = 1; tel":    fault(0, 0, api.ErrNone),
		// An equation and what is not defined.
		"node f(a: int) returns (y: int; z: int) let z = nope; tel":         fault(0, 0, api.ErrNone),
		"node f(a: int) returns (y: int) var h: int; let y = 1; y = 1; tel": fault(0, 1, api.ErrThere),
		"node f(a: int) returns (y: int) let a = 1; tel":                    fault(0, 0, api.ErrThere),
		// A clock and what is not defined.
		"node f(a: int) returns (y: int) var h: int when nope; let tel": fault(0, -1, api.ErrNone),
		// Two nodes.
		"node f(a: int) returns (y: int) let tel node g(a: int) returns (y: int) var h: int when nope; let a = 1; tel":           fault(0, -1, api.ErrNone),
		"node f(a: int) returns (y: int) let y = 1; a = 1; tel node g(a: int) returns (y: int) let nope = 1; tel":                fault(0, 1, api.ErrThere),
		"node f(a: int) returns (y: int) let y = 1; tel node g(a: int) returns (y: int) let y = g(a); a = 1; tel":                fault(1, 0, api.ErrNone),
		"node f(a: int) returns (y: int) let y = g(a); tel node g(a: int) returns (y: int) let y = f(a); tel":                    fault(0, 0, api.ErrNone),
		"node f(a: int) returns (y: int) let y = b; tel node g(b: int) returns (y: int) let y = b; tel":                          fault(0, 0, api.ErrNone),
		"node f(a: int; b: int) returns (y: int) let y = b; tel node g(a: int) returns (y: int) let y = b; tel":                  fault(1, 0, api.ErrNone),
		"node f(a: int; b: int) returns (y: int) let y = b; tel node g(a: int) returns (y: int) let y = a; b = a; tel":           fault(1, 1, api.ErrNone),
		"node f(b: int) returns (y: int) let y = b; tel node g(a: int) returns (y: int) var h: int when b; let y, h = f(a); tel": fault(1, -1, api.ErrNone),
	} {
		tells(t, s, want)
	}
}
