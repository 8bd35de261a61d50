package clock_test

import (
	"strconv"
	"strings"
	"testing"

	"noria/api"
)

// piece is a piece of a node's text, and whether its clocks go together.
type piece struct {
	text string
	well bool
}

// rows are declarations of variables h and k.
func rows() []piece {
	return []piece{
		{"h: bool; k: bool;", true}, {"h: bool when c; k: bool when h;", true}, {"h: bool when not k; k: bool;", true},
		{"h: bool when h; k: bool;", false}, {"h: bool; k: bool when k;", false}, {"h: bool when c; k: bool when not k;", false},
	}
}

// equations are such of variables y$ and z$; r is there when c is.
func equations() []piece {
	return []piece{
		{"y$ = a; z$ = c;", true}, {"y$, z$ = f(a, c);", true}, {"y$ = merge c (true -> r) (false -> 2); z$ = c;", true},
		{"y$ = r; z$ = c;", false}, {"y$ = a when c; z$ = c;", false}, {"y$ = pre f1(r); z$ = c;", false},
		{"y$, z$ = f(r, c);", false}, {"y$, z$ = f(a, c) every (c when c);", false}, {"y$, z$ = f(a, c when c);", false},
	}
}

// first is what is wrong first with the node 2, if l are its pieces, of which the first one is its rows.
func first(l []piece) api.Fault {
	at := 0
	for i, x := range l {
		if i == 0 && !x.well {
			return untimely(2, -1)
		}
		if !x.well {
			return untimely(2, at)
		}
		if i > 0 {
			at += strings.Count(x.text, ";")
		}
	}
	return fine()
}

// P17.3: of several that are wrong in a node its variables are told ahead of its equations, and these in their order.
func TestFirstInNode(t *testing.T) {
	const head = "node f(a: int; c: bool) returns (y: int; z: bool) let y = a; z = c; tel node f1(a: int) returns (y: int) let y = a; tel " +
		"node g(a: int; c: bool) returns (y0: int; y1: int; y2: int; z0: bool; z1: bool; z2: bool) var r: int when c; "
	for _, row := range rows() {
		for _, a := range equations() {
			for _, b := range equations() {
				for _, c := range equations() {
					s := head + row.text + " let "
					for i, q := range []piece{a, b, c} {
						s += strings.ReplaceAll(q.text, "$", strconv.Itoa(i))
					}
					s += "h = true; k = true; r = 1; tel"
					answers(t, s, program(t, s), first([]piece{row, a, b, c}))
				}
			}
		}
	}
}

// body is a node's text behind its name, and what is wrong first with it.
type body struct {
	text string
	well bool
	eq   int
}

// bodies are such of which each has something else, or nothing, that is wrong first.
func bodies() []body {
	const ports = "(a: int; c: bool) returns (y: int; z: bool) "
	return []body{
		{ports + "var h: int when c; let y = a; z = c; h = 1; tel ", true, 0},
		{ports + "var h: int when c; k: bool when k; let y = a; z = c; h = 1; k = c when k; tel ", false, -1},
		{ports + "var k: bool when l; l: bool when k; h: int when c; let k = c; l = c; y = h; z = c when c; h = a; tel ", false, -1},
		{ports + "var h: int when c; let y = h; z = c; h = 1; tel ", false, 0},
		{ports + "var h: int when c; let y = h; z = c when c; h = a; tel ", false, 0},
		{ports + "var h: int when c; let y = a; z = c when c; h = 1; tel ", false, 1},
		{ports + "var h: int when c; let y = a; z = h = a; h = y; tel ", false, 1},
		{ports + "var h: int when c; let y = a; z = c; h = a; tel ", false, 2},
		{ports + "var h: int when c; let h = 1; z = c; y = a when c; tel ", false, 2},
		{ports + "var h: int when c; let h = 1; y, z = f(h, c); tel ", false, 1},
		{ports + "var h: int when c; let y = a; h, z = f(1, true); tel ", false, 1},
		{ports + "var h: int when c; k: bool when not c; let y = a; z = c; h, k = f(1, true); tel ", false, 2},
		{ports + "var h: int when c; k: bool when c; let y = h; h, k = f(a, c); z = k; tel ", false, 0},
	}
}

// P17.3: of several that are wrong in several nodes the first node's is told, whichever it is.
func TestFirstOfNodes(t *testing.T) {
	l := bodies()
	for _, a := range l {
		for _, b := range l {
			for _, c := range l {
				s := "node f(a: int; c: bool) returns (y: int; z: bool) let y = a; z = c; tel "
				want := fine()
				for i, x := range []body{a, b, c} {
					s += "node n" + strconv.Itoa(i) + x.text
					if want == fine() && !x.well {
						want = untimely(i+1, x.eq)
					}
				}
				answers(t, s, program(t, s), want)
			}
		}
	}
}

// P17.3: a fault in the first node of as many as may be, and in each behind it, is told there.
func TestEachNode(t *testing.T) {
	well := bodies()[0]
	for place := range 6 {
		for _, x := range bodies()[1:] {
			if place == 0 && strings.Contains(x.text, "= f(") {
				continue
			}
			s := ""
			for i := range 6 {
				text := well.text
				if i == place {
					text = strings.ReplaceAll(x.text, "= f(", "= n"+strconv.Itoa(i-1)+"(")
				}
				s += "node n" + strconv.Itoa(i) + text
			}
			tells(t, s, untimely(place, x.eq))
		}
	}
}

// P17.3: a clock is each node's own: that of a variable of one name in two nodes, and of a node's inputs and outputs where it is called.
func TestNamesOfTwoNodes(t *testing.T) {
	const s = "node f(a: int; c: bool) returns (y: int) var h: int when c; let y = merge c (true -> h) (false -> 1); h = a when c; tel " +
		"node g(h: int; c: bool) returns (y: int) var a: int when not c; let y = $; a = h when not c; tel"
	for e, want := range map[string]api.Fault{
		"h": fine(), "f(h, c)": fine(), "merge c (true -> h when c) (false -> a)": fine(), "merge c (true -> f(1, true)) (false -> f(a, c when not c))": fine(), "f(merge c (true -> 1) (false -> a), true)": fine(),
		"a": untimely(1, 0), "f(a, c)": untimely(1, 0), "merge c (true -> h) (false -> a)": untimely(1, 0), "merge c (true -> a) (false -> h)": untimely(1, 0), "f(h, c when c)": untimely(1, 0), "f(h, c) when c": untimely(1, 0),
	} {
		tells(t, strings.Replace(s, "$", e, 1), want)
	}
}
