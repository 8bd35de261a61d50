package types_test

import (
	"strconv"
	"strings"
	"testing"

	"noria/api"
)

// piece is a piece of a node's text, and whether its types go together.
type piece struct {
	text string
	well bool
}

// clocks are declarations of variables h and k.
func clocks() []piece {
	return []piece{
		{"h: int; k: bool;", true}, {"h: int when c; k: bool when Up(m);", true}, {"h: int when k; k: bool when k;", true},
		{"h: int when a; k: bool;", false}, {"h: int when Up(c); k: bool when c;", false}, {"h: int when c; k: bool when m;", false}, {"h: int when Red(m); k: bool when h;", false},
	}
}

// equations are such of variables y$ and z$.
func equations() []piece {
	return []piece{
		{"y$ = a; z$ = c;", true}, {"y$, z$ = f(a, c);", true}, {"y$, z$ = f(y0, z1) every z2;", true},
		{"y$ = c; z$ = c;", false}, {"y$ = a + c; z$ = c;", false}, {"y$ = f(a, c); z$ = c;", false}, {"y$ = a + f(a, c); z$ = c;", false},
		{"z$, y$ = f(a, c);", false}, {"y$, z$ = f(c, a);", false}, {"y$, z$ = f(a, c) every a;", false},
	}
}

// first is what is wrong first with the node 1, if l are its pieces, of which the first one is its clocks.
func first(l []piece) api.Fault {
	at := 0
	for i, x := range l {
		if i == 0 && !x.well {
			return mistyped(1, -1)
		}
		if !x.well {
			return mistyped(1, at)
		}
		if i > 0 {
			at += strings.Count(x.text, ";")
		}
	}
	return fine()
}

// P16.3: of several that are wrong in a node its clocks are told ahead of its equations, and these in their order.
func TestFirstInNode(t *testing.T) {
	for _, clock := range clocks() {
		for _, a := range equations() {
			for _, b := range equations() {
				for _, c := range equations() {
					s := "enum way { Up }; enum hue { Red }; node f(a: int; c: bool) returns (y: int; z: bool) let y = a; z = c; tel " +
						"node g(a: int; c: bool; m: way) returns (y0: int; y1: int; y2: int; z0: bool; z1: bool; z2: bool) var " + clock.text + " let "
					for i, q := range []piece{a, b, c} {
						s += strings.ReplaceAll(q.text, "$", strconv.Itoa(i))
					}
					s += "h = 1; k = true; tel"
					answers(t, s, program(t, s), first([]piece{clock, a, b, c}))
				}
			}
		}
	}
}

// bodies are nodes' texts behind their names, all of which have something else, or nothing, that is wrong first.
func bodies() []struct {
	text string
	well bool
	eq   int
} {
	return []struct {
		text string
		well bool
		eq   int
	}{
		{"(a: int; c: bool) returns (y: int; z: bool) var h: int when c; let y = a; z = c; h = 1; tel ", true, 0},
		{"(a: int; c: bool) returns (y: int; z: bool) var h: int when a; let y = a; z = c; h = 1; tel ", false, -1},
		{"(a: int; c: bool) returns (y: int; z: bool) var h: int when a; let y = c; z = a; h = c; tel ", false, -1},
		{"(a: int; c: bool) returns (y: int; z: bool) var h: int when c; let y = c; z = c; h = 1; tel ", false, 0},
		{"(a: int; c: bool) returns (y: int; z: bool) var h: int when c; let y = c; z = a; h = c; tel ", false, 0},
		{"(a: int; c: bool) returns (y: int; z: bool) var h: int when c; let y = a; z = a; h = 1; tel ", false, 1},
		{"(a: int; c: bool) returns (y: int; z: bool) var h: int when c; let y = a; z = not a; h = c; tel ", false, 1},
		{"(a: int; c: bool) returns (y: int; z: bool) var h: int when c; let y = a; z = c; h = c; tel ", false, 2},
		{"(a: int; c: bool) returns (y: int; z: bool) var h: int when c; let h = 1; y, z = f(a, a); tel ", false, 1},
		{"(a: int; c: bool) returns (y: int; z: bool) var h: int when c; let h = 1; z, y = f(a, c); tel ", false, 1},
	}
}

// P16.3: of several that are wrong in several nodes the first node's is told, whichever it is.
func TestFirstOfNodes(t *testing.T) {
	l := bodies()
	for _, a := range l {
		for _, b := range l {
			for _, c := range l {
				s := "node f(a: int; c: bool) returns (y: int; z: bool) let y = a; z = c; tel "
				want := fine()
				for i, x := range []struct {
					text string
					well bool
					eq   int
				}{a, b, c} {
					s += "node n" + strconv.Itoa(i) + x.text
					if want == fine() && !x.well {
						want = mistyped(i+1, x.eq)
					}
				}
				answers(t, s, program(t, s), want)
			}
		}
	}
}

// P16.3: a fault in the first node of as many as may be, and in each behind it, is told there.
func TestEachNode(t *testing.T) {
	well := bodies()[0]
	for place := range 6 {
		for _, x := range bodies()[1:] {
			if place == 0 && strings.Contains(x.text, "= f(") {
				continue
			}
			s := ""
			for i := range 6 {
				text := well.text
				if i == place {
					text = strings.ReplaceAll(x.text, "= f(", "= n"+strconv.Itoa(i-1)+"(")
				}
				s += "node n" + strconv.Itoa(i) + text
			}
			tells(t, s, mistyped(place, x.eq))
		}
	}
}

// P16.3: of two variables of one name in two nodes each has its own type.
func TestNamesOfTwoNodes(t *testing.T) {
	const s = "node f(a: int) returns (y: int) let y = a; tel node g(a: bool) returns (y: bool) let y = a; tel node h(a: int[2]) returns (y: int[2]) let y = $; tel"
	for e, want := range map[string]api.Fault{
		"a": fine(), "[f(1), 2]": fine(), "[f(a[0]), 2]": fine(), "if g(a[0] = a[1]) then a else y": fine(),
		"[f(a), 2]": mistyped(2, 0), "[f(1), g(true)]": mistyped(2, 0), "if g(a) then a else y": mistyped(2, 0), "f(1)": mistyped(2, 0), "[g(true), g(false)]": mistyped(2, 0),
	} {
		tells(t, strings.Replace(s, "$", e, 1), want)
	}
}
