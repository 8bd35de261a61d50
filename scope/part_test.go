package scope_test

import (
	"slices"
	"strconv"
	"strings"
	"testing"

	"noria/api"
	"noria/expr"
	"noria/prog"
)

// put is e with its part at a place exchanged for what is made of it.
func put(e api.Expr, at int, other func(api.Expr) api.Expr) api.Expr {
	var within func(api.Expr) api.Expr
	within = func(e api.Expr) api.Expr {
		at--
		if at == -1 {
			return other(e)
		}
		e.Subs = slices.Clone(e.Subs)
		for i, s := range e.Subs {
			e.Subs[i] = within(s)
		}
		return e
	}
	return within(e)
}

// named makes an expression of a kind that has a name, with arms and parts.
func named(kind int, name string, arms []string, subs ...api.Expr) api.Expr {
	return api.Expr{Kind: kind, Name: name, Arms: arms, Subs: subs}
}

// atEachPart tells each part of each equation of a program, and p with another one in its place; not where prog.Check refuses that.
func atEachPart(t *testing.T, text string, do func(node, eq int, part api.Expr, with func(what string, e api.Expr, want api.Fault) bool)) {
	p := program(t, text)
	for i, n := range p.Nodes {
		for j, q := range n.Eqs {
			at := 0
			for part := range expr.Each(q.E) {
				do(i, j, part, func(what string, e api.Expr, want api.Fault) bool {
					t.Helper()
					n.Eqs[j].E = put(q.E, at, func(api.Expr) api.Expr { return e })
					defer func() { n.Eqs[j].E = q.E }()
					if prog.Check(p) != api.OK {
						return false
					}
					answers(t, what, p, want)
					return true
				})
				at++
			}
		}
	}
	check(t, "as it was", p, fine())
}

// astray are expressions of which a name leads nowhere, at the root.
func astray(p api.Program, node int) map[string]api.Expr {
	one := api.Expr{Kind: api.ExNum, N: 1}
	a := named(api.ExVar, p.Nodes[node].Ins[0].Name, nil)
	l := map[string]api.Expr{
		"a constructor":      named(api.ExCtor, "Nope", nil),
		"a truth in great":   named(api.ExCtor, "True", nil),
		"a path":             named(api.ExOld, "nope", nil),
		"a variable's path":  named(api.ExOld, a.Name, nil),
		"a longer path":      named(api.ExOld, a.Name+"/b.7", nil),
		"a when's name":      named(api.ExWhen, "nope", []string{"true"}, a),
		"a when's arm":       named(api.ExWhen, a.Name, []string{"Nope"}, one),
		"a merge's name":     named(api.ExMerge, "nope", []string{"true", "false"}, one, one),
		"a merge's only arm": named(api.ExMerge, a.Name, []string{"Nope"}, a),
		"a merge's last arm": named(api.ExMerge, a.Name, []string{"Up", "Red", "true", "Nope"}, one, one, one, one),
		"a merge's first":    named(api.ExMerge, a.Name, []string{"Nope", "false"}, one, a),
		"a call":             named(api.ExCall, "nope", nil),
		"a call of another":  named(api.ExCall, a.Name, nil, a),
		"a call of an enum":  named(api.ExCall, "way", nil, a),
		"a call reset":       {Kind: api.ExCall, N: 1, Name: "nope", Subs: []api.Expr{a, one}},
	}
	for _, s := range others(p, node) {
		l["the variable "+s] = named(api.ExVar, s, nil)
		l["when "+s] = named(api.ExWhen, s, []string{"Up"}, one)
	}
	// The node itself, and those behind it.
	for _, n := range p.Nodes[node:] {
		l["a call of "+n.Name] = named(api.ExCall, n.Name, nil, a)
	}
	return l
}

// home are expressions of which all names lead somewhere.
func home(p api.Program, node int) map[string]api.Expr {
	one := api.Expr{Kind: api.ExNum, N: 1}
	l := map[string]api.Expr{"a number": one, "a truth": {Kind: api.ExBool, N: 1}}
	arms := []string{"true", "false"}
	for _, e := range p.Enums {
		arms = append(arms, e.Ctors...)
	}
	for _, s := range arms[2:] {
		l[s] = named(api.ExCtor, s, nil)
	}
	for _, s := range own(p.Nodes[node]) {
		l[s] = named(api.ExVar, s, nil)
		l["merge "+s] = named(api.ExMerge, s, arms[1:6], one, one, one, l["Up"], one)
		for _, arm := range arms {
			l[s+" when "+arm] = named(api.ExWhen, s, []string{arm}, l["Red"])
		}
	}
	for _, n := range p.Nodes[:node] {
		l["a call of "+n.Name] = named(api.ExCall, n.Name, nil, one)
		l["a call of "+n.Name+" reset"] = api.Expr{Kind: api.ExCall, N: 1, Name: n.Name, Subs: []api.Expr{one}}
	}
	return l
}

// P15.2: a name that leads nowhere is told at its equation, in whichever part of it; one that leads somewhere does no harm.
func TestParts(t *testing.T) {
	p := program(t, town)
	tried := map[string]int{}
	atEachPart(t, town, func(node, eq int, part api.Expr, with func(string, api.Expr, api.Fault) bool) {
		for what, e := range astray(p, node) {
			if with(what, e, fault(node, eq, api.ErrNone)) {
				tried["astray"]++
			}
		}
		for what, e := range home(p, node) {
			if with(what, e, fine()) {
				tried["home"]++
			}
		}
	})
	if tried["astray"] < 2000 || tried["home"] < 1000 {
		t.Errorf("tried: %v", tried)
	}
}

// P15.2: so it is with a part whose own name, or one of whose arms, is exchanged for another one.
func TestPartsOfAnotherName(t *testing.T) {
	tried := map[int]int{}
	atEachPart(t, town, func(node, eq int, part api.Expr, with func(string, api.Expr, api.Fault) bool) {
		there := fault(node, eq, api.ErrNone)
		e := part
		switch e.Name = "nope"; part.Kind {
		case api.ExVar, api.ExWhen, api.ExMerge, api.ExCall:
			if with("a name", e, there) {
				tried[part.Kind]++
			}
		case api.ExCtor:
			if e.Name = "Nope"; with("a constructor", e, there) {
				tried[part.Kind]++
			}
		}
		for i := range part.Arms {
			e = part
			e.Arms = slices.Clone(part.Arms)
			if e.Arms[i] = "Nope"; with("an arm", e, there) {
				tried[100+i]++
			}
		}
	})
	for _, kind := range []int{api.ExVar, api.ExCtor, api.ExWhen, api.ExMerge, api.ExCall, 100, 101, 102} {
		if tried[kind] < 1 {
			t.Errorf("of %d none is tried", kind)
		}
	}
}

// P15.2: a part is asked as well where it lies as deep as it may, and where it is the last one of as many as may be.
func TestPartsFar(t *testing.T) {
	p := program(t, town)
	for i := range 3 {
		eqs := p.Nodes[i].Eqs
		for j := range eqs {
			if len(eqs[j].Names) > 1 {
				continue
			}
			as := eqs[j].E
			for want, l := range map[api.Fault]map[string]api.Expr{fault(i, j, api.ErrNone): astray(p, i), fine(): home(p, i)} {
				for what, e := range l {
					for depth := range 11 {
						eqs[j].E = e
						for range depth {
							eqs[j].E = api.Expr{Kind: api.ExPre, Subs: []api.Expr{eqs[j].E}}
						}
						if expr.Right(eqs[j].E) {
							answers(t, what+" deep", p, want)
						}
					}
					eqs[j].E = wide(60-expr.Size(e), e)
					if !expr.Right(eqs[j].E) || expr.Size(eqs[j].E) != 60 {
						t.Fatalf("%s is no piece of something wide: %s", what, cut(eqs[j].E))
					}
					answers(t, what+" last", p, want)
				}
			}
			eqs[j].E = as
		}
	}
	check(t, "as it was", p, fine())
}

// wide is an expression of so many parts, and of e behind them.
func wide(more int, e api.Expr) api.Expr {
	one := api.Expr{Kind: api.ExNum, N: 1}
	w := api.Expr{Kind: api.ExArr}
	for more--; more > 0; {
		some := min(more, 9)
		a := one
		if some > 1 {
			a = api.Expr{Kind: api.ExArr, Subs: slices.Repeat([]api.Expr{one}, some-1)}
		}
		w.Subs = append(w.Subs, a)
		more -= some
	}
	w.Subs = append(w.Subs, e)
	return w
}

// P15.2: in each place of each kind of expression a name is asked.
func TestPartsOfEachKind(t *testing.T) {
	const s = "enum way { Up, Down }; node g() returns (y: int) let y = 1; tel " +
		"node f(a: int; b: int; z: int) returns (y: int; x: int) let x = 2; y = $; tel"
	kinds := `
-@ | not @ | @ + 1 | 1 - @ | @ * 1 | a / @ | @ mod a | @ and true | true or @ | a xor @ | @ = 1 | a <> @ | @ < a | a <= @ | @ > a | a >= @
if @ then a else b | if a then @ else b | if a then b else @ | 1 fby @ | -1 fby @ | [1, 2] fby @ | @ -> a | a -> @ | pre @
@ when a | @ when not a | @ when Up(a) | merge a (Up -> @) | merge a (Up -> @) (Down -> b) | merge a (Up -> b) (Down -> @) | merge a (true -> a) (false -> @)
g(@) | g(@, a) | g(a, @) | g() every @ | g(@) every a | g(a, b) every @ | g(a, b, a, b, a, @) | g(a, b, a, b, a, b) every @
[@] | [@, a] | [a, @] | [1, 2, 3, 4, 5, 6, 7, @] | @[1] | a[@] | (@ with [a] = b) | (a with [@] = b) | (a with [b] = @)`
	for _, kind := range strings.FieldsFunc(kinds, func(r rune) bool { return r == '|' || r == '\n' }) {
		for part, want := range map[string]api.Fault{
			"z": fine(), "Down": fine(), "g()": fine(), "(b when Up(z))": fine(), "(merge z (true -> b))": fine(),
			"nope": fault(1, 1, api.ErrNone), "Nope": fault(1, 1, api.ErrNone), "f()": fault(1, 1, api.ErrNone), "'z'": fault(1, 1, api.ErrNone),
			"(b when Nope(z))": fault(1, 1, api.ErrNone), "(b when nope)": fault(1, 1, api.ErrNone),
			"(merge z (true -> b) (Nope -> a))": fault(1, 1, api.ErrNone), "(merge nope (true -> b))": fault(1, 1, api.ErrNone),
		} {
			tells(t, strings.Replace(s, "$", strings.Replace(kind, "@", part, 1), 1), want)
		}
	}
	// A constant ahead of fby has constructors alone.
	for first, want := range map[string]api.Fault{"Up": fine(), "[Down, Up]": fine(), "Nope": fault(1, 1, api.ErrNone), "[Up, Nope]": fault(1, 1, api.ErrNone), "[Nope]": fault(1, 1, api.ErrNone)} {
		tells(t, strings.Replace(s, "$", first+" fby a", 1), want)
		tells(t, strings.Replace(s, "$", "1 fby a -> pre ("+first+" fby g())", 1), want)
	}
}

// P15.2: without enums there are no constructors.
func TestPartsWithoutEnums(t *testing.T) {
	const s = "node f(a: bool) returns (y: int) let y = $; tel"
	for e, want := range map[string]api.Fault{
		"true": fine(), "a when a": fine(), "a when not a": fine(), "merge a (true -> 1) (false -> 2)": fine(),
		"Up": fault(0, 0, api.ErrNone), "True": fault(0, 0, api.ErrNone), "a when Up(a)": fault(0, 0, api.ErrNone), "merge a (true -> 1) (Up -> 2)": fault(0, 0, api.ErrNone),
	} {
		tells(t, strings.Replace(s, "$", e, 1), want)
	}
}

// P15.2: constructors are those of all enums, the last one's too.
func TestPartsOfAllEnums(t *testing.T) {
	p := program(t, full())
	for _, e := range p.Enums {
		for k, s := range append(slices.Clone(e.Ctors), "Nope", e.Ctors[0]+"_") {
			want := fine()
			if k >= len(e.Ctors) {
				want = fault(4, 17, api.ErrNone)
			}
			for i, x := range []api.Expr{
				named(api.ExCtor, s, nil),
				named(api.ExWhen, "a0", []string{s}, named(api.ExVar, "a1", nil)),
				named(api.ExMerge, "a0", []string{"true", s}, named(api.ExVar, "a1", nil), named(api.ExVar, "a1", nil)),
			} {
				p.Nodes[4].Eqs[17].E = x
				check(t, s+" in the kind "+strconv.Itoa(i), p, want)
			}
		}
	}
}
