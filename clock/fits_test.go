package clock_test

import (
	"math"
	"strconv"
	"testing"

	"noria/api"
	"noria/clock"
	"noria/expr"
)

// table tells of texts of expressions in the last node of yard on which clock each is there.
func table() map[string][]string {
	return map[string][]string{
		// Constants fit every clock, and what has nothing else, too.
		ever: {
			"1", "-1", "0", "true", "false", "Up", "Left", "Red", "Only", "[1]", "[1, 2]", "[-1, 2]", "[Up, Nope]", "Nope",
			"1 + 2", "-(1 + 2)", "not true", "if true then 1 else 2", "1 fby 2", "1 fby 2 fby 3", "1 -> 2", "pre 1", "pre pre Up", "[1, 2][0]", "([1, 2] with [0] = 3)", "[1 + 2, 3]",
			"none()", "none() every true", "half(1)", "half(none())", "both(1, false) every none()", "nope()", "nope(1)", "none(1, 2, 3, 4, 5, 6) every true", "half() -> none() + 1",
		},
		// What is there always: an input, an output, and what goes together with them.
		"": {
			"i", "b", "w", "t", "u", "a", "y", "z", "v", "x",
			"i + a", "i + y", "i + 1", "1 + i", "-i", "not b", "i = w", "if b then i else a", "if true then 1 else i", "if b then 1 else 2",
			"1 fby i", "Nope fby i", "[1, 2] fby t", "i -> a", "1 -> a", "i -> 1", "pre i", "pre (i + 1)", "[i]", "[i, 1, a]", "t[i]", "t[0]", "[1, 2][i]", "(t with [0] = 1)", "([1] with [i] = 1)", "([1] with [0] = i)",
			"none() every b", "half(i)", "half(i) every b", "half(1) every b", "half(i) every true", "both(i, 1)", "both(1, i)", "nope(i)", "half(half(half(i)))", "none(1, 2, i, 4, 5, 6)",
			"merge b (true -> 1) (false -> 2)", "merge b (true -> h) (false -> 2)", "merge b (true -> 1) (false -> k)", "merge b (true -> h) (false -> k)", "merge b (false -> k) (true -> h)",
			"merge b (true -> h + 1) (false -> pre k)", "merge b (true -> 0 fby h) (false -> 0 -> k)", "merge b (true -> i when b) (false -> a when not b)", "merge b (true -> i when b) (false -> 1)",
			"merge b (true -> 1)", "merge b (true -> c)", "merge b (false -> d)", "merge w (Up -> 1) (Down -> 2) (Left -> 3)", "merge w (Up -> l) (Down -> i when Down(w)) (Left -> w when Left(w))", "merge v (Left -> n)",
			"merge b (true -> merge c (true -> 1) (false -> 2)) (false -> 3)", "merge b (true -> merge c (true -> h when c) (false -> o)) (false -> merge d (true -> 1) (false -> k when not d))",
			"merge b (true -> merge c (true -> 1) (false -> merge p (true -> s) (false -> o when not p))) (false -> merge d (true -> 1 when d) (false -> k when not d))",
			"merge u (Only -> 1)", "merge u (Only -> i when Only(u))", "merge i (true -> 1)", "merge i (Up -> i when false(i)) (Left -> 2)", "0 fby merge b (true -> h) (false -> k)",
			"half(merge b (true -> h) (false -> k)) every merge w (Up -> g) (Down -> true) (Left -> false)", "(merge b (true -> h) (false -> k)) + i", "merge b (true -> (1 when b)) (false -> 2)",
			"merge b (Down -> h) (Up -> k)", "merge b (Green -> h) (false -> k)",
		},
		"b=1;": {
			"c", "h", "m", "i when b", "1 when b", "true when b", "Up when b", "i when true(b)", "i when Down(b)", "1 when Green(b)", "(i + a) when b", "i when b + 1", "h + 1", "h + (i when b)", "(i when b) + h", "pre h", "pre i when b", "pre (i when b)", "0 fby h", "0 fby (i when b)", "h -> 1",
			"1 -> h", "if c then h else 2", "if true then 1 else h", "[h, i when b]", "(t when b)[h]", "(t when b)[0]", "(t when b with [h] = 1)", "half(h)", "half(1) every c", "half(h) every (b when b)", "half(i) when b", "none() every c", "(merge b (true -> h) (false -> k)) when b",
			"merge c (true -> 1) (false -> o)", "merge c (true -> h when c) (false -> h when not c)", "merge m (Up -> 1) (Down -> r) (Left -> h when Left(m))", "merge m (Down -> r)", "merge c (true -> 1) (false -> 2)", "(merge w (Up -> l) (Down -> 2) (Left -> 3)) when b", "none() when b",
		},
		"b=0;":         {"k", "d", "i when not b", "i when false(b)", "i when Up(b)", "k + (i when not b)", "1 when not b", "merge d (true -> 1) (false -> k when not d)", "half(k)", "0 fby k", "1 -> pre k", "(1 fby i) when not b"},
		"w=0;":         {"l", "g", "i when Up(w)", "1 when false(w)", "1 when Red(w)", "merge g (true -> l when g) (false -> 1)", "l + (i when Up(w))"},
		"w=1;":         {"i when Down(w)", "1 when true(w)", "(i -> 2) when Down(w)", "(i when Down(w)) * (w when Down(w))"},
		"w=2;":         {"i when Left(w)", "1 when Left(w)", "1 when Blue(w)"},
		"v=2;":         {"n", "i when Left(v)", "n - 1", "half(n) every (z when Left(v))"},
		"u=0;":         {"u when Only(u)", "1 when Only(u)"},
		"i=1;":         {"1 when i", "i when i", "a when Green(i)"},
		"b=1;c=0;":     {"o", "p", "h when not c", "1 when not c", "(i when b) when not c", "(1 when b) when not c", "((i when b) + h) when not c", "i when b when not c", "merge p (true -> s) (false -> 1)", "merge p (true -> s) (false -> o when not p)", "o + (h when not c)", "0 fby o", "(merge c (true -> 1) (false -> o)) when not c"},
		"b=1;c=1;":     {"h when c", "1 when c", "(h + 1) when c", "(i when b) when c"},
		"b=1;m=1;":     {"r", "h when Down(m)", "1 when true(m)", "1 when Down(m)"},
		"b=1;m=0;":     {"1 when Up(m)", "(merge m (Up -> 1) (Down -> r) (Left -> 3)) when Up(m)"},
		"b=0;d=1;":     {"k when d", "1 when d", "((i when not b) when d)"},
		"b=1;c=0;p=1;": {"s", "o when p", "1 when p", "((i when b) when not c) when p", "i when b when not c when p", "s + (o when p)", "1 -> 0 fby half(s) every (p when p)"},
		"b=1;c=0;p=0;": {"o when not p", "0 fby (o when not p)"},
		"w=0;g=1;":     {"l when g", "1 when g"},
		never: {
			// No variable, no arm.
			"nope", "nope + 1", "1 fby nope", "i when nope", "1 when nope", "1 when Zero(b)", "i when Nope(w)", "merge nope (true -> 1)", "merge b (true -> 1) (Nope -> 2)", "merge w (Nope -> 1) (Up -> l)", "merge b (true -> nope) (false -> k)",
			"[nope]", "half(nope)", "none() every nope", "1 -> nope", "nope -> 1", "pre nope", "not nope", "nope when b", "half", "t when main", "1 when Zero(u) + 1 when Only(u)",
			// Two clocks at once.
			"i + h", "h + i", "h + k", "h + o", "o + s", "r + o", "(i when b) + (i when not b)", "i = h", "if b then i else h", "if b then h else i", "if c then i else i", "if c then h else k", "i -> h", "h -> i", "pre (i + h)", "[i, h]", "[h, 1, i]", "t[h]", "(t with [h] = 1)", "(t with [0] = h)",
			"([h] with [0] = i)", "half(h) every b", "half(i) every c", "both(i, h)", "both(h, i)", "both(i, b) every c", "half(i + h)", "1 fby (i + h)", "(i + h) when b", "1 -> (h + k)", "none(1, 2, 3, 4, h, i)",
			// A when whose part is there on another clock than its variable.
			"i when c", "h when b", "i when d", "i when p", "h when p", "o when c", "o when b", "(i when b) when b", "(i when b) when not b", "(h when c) when p", "h when Up(w)", "(h when not c) when c", "(i + 1) when g", "(o when p) when c", "s when p",
			// A merge one of whose parts is there on another clock.
			"merge b (true -> i) (false -> 2)", "merge b (true -> 1) (false -> i)", "merge b (true -> k) (false -> h)", "merge b (true -> h) (false -> h)", "merge b (true -> k) (false -> k)", "merge b (true -> i when b) (false -> i when b)", "merge c (true -> o) (false -> o)",
			"merge c (true -> h) (false -> o)", "merge c (true -> i when c) (false -> o)", "merge b (true -> merge b (true -> h) (false -> k)) (false -> k)", "merge b (true -> o) (false -> k)", "merge b (true -> h when c) (false -> k)", "merge w (Up -> l) (Down -> l) (Left -> 3)", "merge w (Up -> i) (Down -> 2) (Left -> 3)",
			"merge w (Up -> 1) (Down -> 2) (Left -> n)", "merge w (Up -> 1) (Down -> l) (Left -> 3)", "merge m (Up -> 1) (Down -> h) (Left -> 3)", "merge m (Up -> r) (Down -> 1) (Left -> 2)", "merge p (true -> o) (false -> 1)", "merge p (true -> 1) (false -> s)", "merge d (true -> h) (false -> 1)",
			"merge b (true -> merge d (true -> 1) (false -> 2)) (false -> 3)", "merge b (true -> 1) (false -> merge c (true -> 1) (false -> 2))", "(merge b (true -> h) (false -> k)) when c", "(merge c (true -> 1) (false -> 2)) when b", "(merge c (true -> 1) (false -> o)) + i", "merge v (Left -> i when Left(w))",
		},
	}
}

// P17.2: each expression of the table, on the clocks of all variables and what is near them, with nodes of other variables around.
func TestFits(t *testing.T) {
	p := program(t, yard)
	for want, l := range table() {
		for _, s := range l {
			e := expression(t, s)
			if got := reckoned(p, main, e); got != want {
				t.Fatalf("%s is reckoned as %s, not %s", s, got, want)
			}
			there(t, p, main, e, want)
		}
	}
}

// P17.2: each expression of the table as a part of others: what fits a clock makes them fit it, what does not makes none of them fit.
func TestFitsWithin(t *testing.T) {
	p := program(t, yard)
	for want, l := range table() {
		for _, s := range l {
			e := expression(t, s)
			for n, x := range around(e) {
				if expr.Depth(x) > api.MaxDepth {
					continue
				}
				on := nearby(t, "")
				if want != never && want != ever {
					on = nearby(t, want)
				}
				for _, c := range on {
					so := want == ever || want == text(c)
					if got := clock.Fits(p, main, x, c); got != so {
						t.Fatalf("%d: Fits is %v on %q, of %s", n, got, text(c), cut(x))
					}
				}
			}
		}
	}
}

// around are expressions with e as one of their parts, all others of which fit each clock.
func around(e api.Expr) []api.Expr {
	one := number(1)
	return []api.Expr{
		{Kind: api.ExUn, Op: api.OpNeg, Subs: []api.Expr{e}}, {Kind: api.ExUn, Op: api.OpNot, Subs: []api.Expr{e}},
		{Kind: api.ExBin, Op: api.OpAdd, Subs: []api.Expr{e, one}}, {Kind: api.ExBin, Op: api.OpGe, Subs: []api.Expr{one, e}},
		over(api.ExIf, e, one, one), over(api.ExIf, one, e, one), over(api.ExIf, one, one, e),
		over(api.ExFby, one, e), over(api.ExArrow, e, one), over(api.ExArrow, one, e), over(api.ExPre, e),
		call("half", []api.Expr{e}), call("nope", []api.Expr{one, e}), call("half", nil, e), call("half", []api.Expr{one, one, one, one, one, e}, one), call("half", []api.Expr{e, one}, one),
		over(api.ExArr, e), over(api.ExArr, one, e), over(api.ExArr, one, one, one, one, one, one, one, e), over(api.ExArr, e, one, one),
		over(api.ExAt, e, one), over(api.ExAt, one, e), over(api.ExSet, e, one, one), over(api.ExSet, one, e, one), over(api.ExSet, one, one, e),
	}
}

// P17.2: of each kind that asks all its Subs each in turn doesn't fit, among others that all do, on each clock.
func TestEachSub(t *testing.T) {
	p := program(t, yard)
	names := map[string]string{"": "i", "b=1;": "h", "b=0;": "k", "w=0;": "l", "b=1;c=0;": "o", "b=1;c=0;p=1;": "s"}
	for _, asked := range [][3]int{{api.ExUn, 1, 1}, {api.ExBin, 2, 2}, {api.ExIf, 3, 3}, {api.ExArrow, 2, 2}, {api.ExPre, 1, 1}, {api.ExCall, 1, 7}, {api.ExArr, 1, 8}, {api.ExAt, 2, 2}, {api.ExSet, 3, 3}} {
		for n := asked[1]; n <= asked[2]; n++ {
			for want, name := range names {
				e := api.Expr{Kind: asked[0]}
				for range n {
					e.Subs = append(e.Subs, variable(name))
				}
				there(t, p, main, e, want)
				for at := range n {
					for _, other := range names {
						if other == name {
							continue
						}
						x := copied(e)
						x.Subs[at] = variable(other)
						alone := never
						if n == 1 {
							alone = rowed(p, main, other)
						}
						on := conds(t, want)
						fits(t, p, main, x, on, alone == want)
						fits(t, p, main, x, conds(t, rowed(p, main, other)), n == 1)
					}
				}
			}
		}
	}
}

// P17.2: of a merge of as many parts as may be each in turn is there on another clock, always, and where another part is; all others are as they must be, or constants.
func TestEachPartOfMerge(t *testing.T) {
	colours := []string{"Red", "Green", "Blue", "White", "Black", "Grey"}
	for _, on := range []string{"q", "h"} {
		s := ways + "node f(q: hue; b: bool) returns (y: int) var h: hue when b; "
		for i, arm := range colours {
			s += "r" + strconv.Itoa(i) + ": int when " + arm + "(" + on + "); "
		}
		p := program(t, s+"let tel")
		want := rowed(p, 0, on)
		for n := 1; n <= len(colours); n++ {
			for _, constants := range []bool{true, false} {
				e := named(api.ExMerge, on, colours[:n])
				for i := range n {
					e.Subs = append(e.Subs, variable("r"+strconv.Itoa(i)))
					if constants {
						e.Subs[i] = number(int64(i))
					}
				}
				there(t, p, 0, e, want)
				for i := range n {
					for _, name := range []string{"q", "b", "h", "y", "nope", "r0", "r1", "r2", "r3", "r4", "r5"} {
						x := copied(e)
						x.Subs[i] = variable(name)
						fits(t, p, 0, x, conds(t, want), name == "r"+strconv.Itoa(i))
					}
					x := copied(e)
					x.Arms[i] = "Nope"
					fits(t, p, 0, x, conds(t, want), false)
				}
			}
		}
	}
}

// P17.2: of an ExFby its second part alone is asked, whatever the first one is.
func TestFitsFby(t *testing.T) {
	p := program(t, yard)
	for _, first := range []string{"1", "i", "h", "nope", "o", "i + h", "merge nope (Up -> i)"} {
		for second, want := range map[string]string{"1": ever, "i": "", "h": "b=1;", "o": "b=1;c=0;", "nope": never, "i + h": never, "i when b": "b=1;", "merge b (true -> h) (false -> k)": ""} {
			there(t, p, main, over(api.ExFby, expression(t, first), expression(t, second)), want)
		}
	}
}

// P17.2: what was kept is there on no clock, and nothing in which it is a part, however deep.
func TestFitsOld(t *testing.T) {
	p := program(t, yard)
	for _, name := range []string{"y", "a/b.1", "", "i", "h"} {
		old := named(api.ExOld, name, nil)
		there(t, p, main, old, never)
		for want, l := range table() {
			for i, s := range l {
				if i%7 != 0 {
					continue
				}
				e := expression(t, s)
				for at := range expr.Size(e) {
					x := put(e, at, func(api.Expr) api.Expr { return old })
					on := conds(t, "")
					if want != ever && want != never {
						on = conds(t, want)
					}
					// Only in the first part of an ExFby nobody asks.
					fits(t, p, main, x, on, joined(reckoned(p, main, x), text(on)) == text(on))
				}
			}
		}
		e := old
		for range 40 {
			for _, x := range around(e) {
				fits(t, p, main, x, nil, false)
			}
			e = over(api.ExPre, e)
		}
	}
}

// P17.2: each condition of a row as long as may be is taken away by a when, and put behind by a merge.
func TestFitsDeep(t *testing.T) {
	for _, n := range []int{0, 1, 2, 3, 7, api.MaxVars} {
		p := chain(n, n%3 == 0, "true", "Up", "Left")
		names := []string{"b"}
		for i := range n {
			names = append(names, "v"+strconv.Itoa(i))
		}
		last := rowed(p, 0, names[n])
		// The last variable, and the constant, sampled on it, from there down to what is there always.
		sampled, constant := variable("b"), number(1)
		for i, d := range forward(p.Nodes[0].Vars, n) {
			sampled, constant = when(d.On, d.Ctor, sampled), when(d.On, d.Ctor, constant)
			want := rowed(p, 0, names[i+1])
			there(t, p, 0, sampled, want)
			there(t, p, 0, constant, want)
		}
		merged := variable(names[n])
		l := forward(p.Nodes[0].Vars, n)
		for i := n - 1; i >= 0; i-- {
			merged = named(api.ExMerge, l[i].On, []string{l[i].Ctor}, merged)
			there(t, p, 0, merged, rowed(p, 0, l[i].On))
		}
		// One more condition fits no variable, but what is made of a constant.
		there(t, p, 0, when(names[n], "Down", number(1)), last+names[n]+"=1;")
	}
}

// forward are variables in the order of their row.
func forward(l []api.Decl, n int) []api.Decl {
	all := make([]api.Decl, n)
	for _, d := range l {
		i, _ := strconv.Atoi(d.Name[1:])
		all[i] = d
	}
	return all
}

// P17.2: at a place where no node is nothing is there, not even a constant; of a node whose variable has no row neither that.
func TestFitsNodes(t *testing.T) {
	p := program(t, yard)
	for _, node := range []int{-1, -2, -4, 4, 5, math.MaxInt, math.MinInt, math.MaxInt32, math.MinInt32} {
		for _, s := range []string{"1", "Up", "[1, 2]", "none()", "i", "a", "y", "a when c", "1 when c", "half(1)", "merge c (true -> 1)"} {
			for _, on := range []string{"", "c=1;", "b=1;"} {
				fits(t, p, node, expression(t, s), conds(t, on), false)
				fits(t, api.Program{Enums: p.Enums}, node, expression(t, s), conds(t, on), false)
				fits(t, api.Program{}, 0, expression(t, s), conds(t, on), false)
			}
		}
		fits(t, p, node, api.Expr{}, nil, false)
	}
	for node, l := range []map[string]string{
		{"y": "", "a": never, "1": ever, "i": never, "half(y)": ""}, {"a": "", "y": "", "c": never, "none()": ever}, {"a": "", "c": "", "i": never, "1 when c": "c=1;", "a when c": "c=1;", "a when b": never}, {"a": "", "c": "b=1;", "h": "b=1;", "1 when c": "b=1;c=1;"},
	} {
		for s, want := range l {
			there(t, p, node, expression(t, s), want)
		}
	}
}

// P17.2: a variable whose row comes back, is too long, or leads nowhere is there on no clock, and no when and no merge over it.
func TestFitsNoRow(t *testing.T) {
	back := chain(4, true, "true")
	back.Nodes[0].Vars[1].On = "v2"
	long := chain(13, true, "true")
	nowhere := chain(4, true, "true")
	nowhere.Nodes[0].Vars[1].On = "nope"
	noArm := chain(4, true, "true")
	noArm.Nodes[0].Vars[1].Ctor = "Nope"
	for _, c := range []struct {
		p    api.Program
		name string
		ok   bool
	}{
		{back, "v0", true}, {back, "v1", false}, {back, "v2", false}, {back, "v3", false}, {long, "v11", true}, {long, "v12", false}, {nowhere, "v0", true}, {nowhere, "v1", false}, {nowhere, "v2", false}, {noArm, "v0", true}, {noArm, "v1", false}, {noArm, "v3", false},
	} {
		want := rowed(c.p, 0, c.name)
		if (want != never) != c.ok {
			t.Fatalf("%s is reckoned as %s", c.name, want)
		}
		one := number(1)
		there(t, c.p, 0, variable(c.name), want)
		there(t, c.p, 0, named(api.ExMerge, c.name, []string{"true", "Left"}, one, one), want)
		sampled := never
		if c.ok {
			sampled = want + c.name + "=1;"
		}
		there(t, c.p, 0, when(c.name, "true", one), sampled)
		there(t, c.p, 0, when(c.name, "true", variable(c.name)), sampled)
	}
}

// P17.2: Fits ends, and does not panic, also of what is not right, in whichever program.
func TestFitsOfAll(t *testing.T) {
	p := program(t, yard)
	one := number(1)
	var l []api.Expr
	for _, kind := range []int{-1, 0, 1, 2, 3, 4, 5, 6, 7, 8, 9, 10, 11, 12, 13, 14, 15, 16, 17, 18, math.MaxInt, math.MinInt} {
		for _, name := range []string{"", "b", "nope"} {
			for _, arms := range [][]string{nil, {"true"}, {"true", "false"}, {"", "Nope", "true"}} {
				for n := range 4 {
					e := named(kind, name, arms)
					for range n {
						e.Subs = append(e.Subs, one)
					}
					l = append(l, e, over(kind, e), over(api.ExPre, e), when("b", "true", e))
				}
			}
		}
	}
	for _, e := range l {
		for _, on := range [][]api.Cond{nil, {}, {{Var: "b", Val: 1}}, {{}}, {{Var: "b", Val: 1}, {Var: "c"}}} {
			clock.Fits(p, main, e, on)
			clock.Fits(api.Program{}, 0, e, on)
			clock.Fits(api.Program{Nodes: make([]api.Node, 1)}, 0, e, on)
		}
	}
	for _, e := range []api.Expr{
		named(api.ExWhen, "b", nil, one), named(api.ExWhen, "b", []string{"true"}), named(api.ExMerge, "b", []string{"true"}, one, one), over(api.ExFby), over(api.ExFby, one), named(api.ExMerge, "b", nil, one),
	} {
		// No arm, or no part, of which it is asked.
		fits(t, p, main, e, nil, false)
		fits(t, p, main, e, conds(t, "b=1;"), false)
	}
}

// P17.2: parts that are nested, or beside one another, as many as a program is promised for.
func TestFitsOfMuch(t *testing.T) {
	p := program(t, yard)
	const deep = 1 << 16
	for last, want := range map[string]bool{"i": true, "1": true, "h": false, "nope": false} {
		for _, kind := range []int{api.ExPre, api.ExCall, api.ExUn} {
			e := expression(t, last)
			for range deep - 1 {
				e = over(kind, e)
			}
			if got := clock.Fits(p, main, e, nil); got != want {
				t.Fatalf("%d deep over %s: %v", kind, last, got)
			}
		}
		wide := over(api.ExArr)
		for range 100000 {
			wide.Subs = append(wide.Subs, variable("i"))
		}
		wide.Subs = append(wide.Subs, expression(t, last))
		if got := clock.Fits(p, main, wide, nil); got != want {
			t.Fatalf("beside %s: %v", last, got)
		}
	}
	// A row of whens as long as its clock, and of merges: no variable is there on so many conditions.
	e, m := number(1), number(1)
	var on []api.Cond
	for range deep - 1 {
		e, m = when("b", "true", e), named(api.ExMerge, "b", []string{"true"}, m)
		on = append(on, api.Cond{Var: "b", Val: 1})
	}
	for _, c := range [][]api.Cond{nil, on[:1], on} {
		if clock.Fits(p, main, e, c) || clock.Fits(p, main, m, c) {
			t.Fatalf("what is %d deep fits %d conditions", deep, len(c))
		}
	}
}
