package clock_test

import (
	"math/rand/v2"
	"reflect"
	"slices"
	"strconv"
	"testing"

	"noria/api"
	"noria/clock"
	"noria/expr"
	"noria/prog"
	"noria/types"
)

// wrongs tells by texts alone what is wrong first with the clocks of p, if types.Check lets it be.
func wrongs(p api.Program) api.Fault {
	if f := types.Check(p); f != fine() {
		return f
	}
	for i, n := range p.Nodes {
		for _, d := range own(n) {
			if rowed(p, i, d.Name) == never {
				return untimely(i, -1)
			}
		}
		for j, q := range n.Eqs {
			l := []string{reckoned(p, i, q.E)}
			for _, name := range q.Names {
				l = append(l, rowed(p, i, name))
			}
			if joined(l...) == never {
				return untimely(i, j)
			}
		}
	}
	return fine()
}

// laws hold P17.4 of a program that Check lets be, of the clocks of all variables of a node and of what is told on them.
func laws(t *testing.T, p api.Program) {
	t.Helper()
	for i, n := range p.Nodes {
		var all [][]api.Cond
		for _, d := range own(n) {
			on, ok := clock.Row(p, i, d.Name)
			if !ok {
				t.Fatalf("%s has no clock: %s", d.Name, cut(p))
			}
			for k, c := range on {
				ahead, ok := clock.Row(p, i, c.Var)
				if !ok || !slices.Equal(ahead, on[:k]) {
					t.Fatalf("%s is on %q, not on what is ahead in %q: %s", c.Var, text(ahead), text(on), cut(p))
				}
			}
			all = append(all, on)
		}
		for _, q := range n.Eqs {
			on, _ := clock.Row(p, i, q.Names[0])
			if !clock.Fits(p, i, q.E, on) {
				t.Fatalf("%v is not there on its clock %q: %s", q.Names, text(on), cut(p))
			}
			for _, other := range all {
				if len(expr.Vars(q.E)) > 0 && clock.Fits(p, i, q.E, other) && !slices.Equal(on, other) {
					t.Fatalf("%v is there on %q, and on %q: %s", q.Names, text(on), text(other), cut(p))
				}
			}
		}
	}
}

// dice makes programs by chance.
type dice struct{ *rand.Rand }

func pick[T any](r dice, l []T) T {
	return l[r.IntN(len(l))]
}

// pool are the types of variables of these programs: few, so that variables can take each other's places.
func pool() []api.Ty {
	return []api.Ty{{Kind: api.KInt}, {Kind: api.KInt}, {Kind: api.KBool}, {Kind: api.KBool}, {Kind: api.KEnum}, {Kind: api.KEnum, Enum: 1}, {Kind: api.KInt, Len: 2}}
}

// spot is where an expression is made: in a node of a program, with the variables that it has already.
type spot struct {
	dice
	p    api.Program
	node int
}

// vars are the variables of a type that are there on a clock.
func (r spot) vars(u api.Ty, on string) []string {
	var l []string
	for _, d := range own(r.p.Nodes[r.node]) {
		if d.Ty == u && rowed(r.p, r.node, d.Name) == on {
			l = append(l, d.Name)
		}
	}
	return l
}

// deciders are the variables on whose values others may be there, of those on that clock, or of all.
func (r spot) deciders(on string) []string {
	var l []string
	for _, d := range own(r.p.Nodes[r.node]) {
		if d.Ty.Kind != api.KInt && (on == ever || rowed(r.p, r.node, d.Name) == on) {
			l = append(l, d.Name)
		}
	}
	return l
}

// arms are those of a variable.
func (r spot) arms(name string) []string {
	d, _ := prog.Decl(r.p.Nodes[r.node], name)
	if d.Ty.Kind == api.KBool {
		return []string{"true", "false"}
	}
	return r.p.Enums[d.Ty.Enum].Ctors
}

// constant makes a constant of a type.
func (r spot) constant(u api.Ty) api.Expr {
	switch {
	case u.Len > 0:
		return over(api.ExArr, number(r.Int64N(9)), number(r.Int64N(9)))
	case u.Kind == api.KInt:
		return number(r.Int64N(9))
	case u.Kind == api.KBool:
		return api.Expr{Kind: api.ExBool, N: r.Int64N(2)}
	}
	return named(api.ExCtor, pick(r.dice, r.p.Enums[u.Enum].Ctors), nil)
}

// atom makes a variable of a type that is there on a clock, or a constant.
func (r spot) atom(u api.Ty, on string) api.Expr {
	if l := r.vars(u, on); len(l) > 0 && r.IntN(5) > 0 {
		return variable(pick(r.dice, l))
	}
	return r.constant(u)
}

// last are the variable and the arm of a clock's last condition, and what is ahead of it.
func (r spot) last(on string) (string, string, string) {
	for _, name := range r.deciders(ever) {
		for i, arm := range r.arms(name) {
			if ahead := rowed(r.p, r.node, name); ahead != never && ahead+name+"="+strconv.Itoa(i^r.turned(name))+";" == on {
				return name, arm, ahead
			}
		}
	}
	return "", "", ""
}

// turned is 1 of a truth, whose arms stand the other way round than their values.
func (r spot) turned(name string) int {
	if d, _ := prog.Decl(r.p.Nodes[r.node], name); d.Ty.Kind == api.KBool {
		return 1
	}
	return 0
}

// expr makes an expression of that type that is there on that clock.
func (r spot) expr(u api.Ty, on string, depth int) api.Expr {
	if depth == 0 {
		return r.atom(u, on)
	}
	part := func(v api.Ty) api.Expr { return r.expr(v, on, depth-1) }
	truths, numbers := api.Ty{Kind: api.KBool}, api.Ty{Kind: api.KInt}
	switch r.IntN(13) {
	case 0:
		return over(api.ExIf, part(truths), part(u), part(u))
	case 1:
		return over(api.ExFby, r.constant(u), part(u))
	case 2:
		return over(api.ExArrow, part(u), part(u))
	case 3:
		return over(api.ExPre, part(u))
	case 4, 5, 6:
		if on != "" {
			name, arm, ahead := r.last(on)
			return when(name, arm, r.expr(u, ahead, depth-1))
		}
	case 7, 8:
		if l := r.deciders(on); len(l) > 0 {
			e := named(api.ExMerge, pick(r.dice, l), nil)
			e.Arms = r.arms(e.Name)
			for i := range e.Arms {
				e.Subs = append(e.Subs, r.expr(u, on+e.Name+"="+strconv.Itoa(i^r.turned(e.Name))+";", depth-1))
			}
			return e
		}
	case 9, 10:
		if e, ok := r.call([]api.Ty{u}, on, depth); ok {
			return e
		}
	}
	switch {
	case u.Len > 0:
		return pick(r.dice, []api.Expr{over(api.ExArr, part(numbers), part(numbers)), over(api.ExSet, part(u), part(numbers), part(numbers))})
	case u.Kind == api.KInt:
		return pick(r.dice, []api.Expr{{Kind: api.ExUn, Op: api.OpNeg, Subs: []api.Expr{part(u)}}, {Kind: api.ExBin, Op: api.OpAdd, Subs: []api.Expr{part(u), part(u)}}, over(api.ExAt, part(api.Ty{Kind: api.KInt, Len: 2}), part(u))})
	case u.Kind == api.KBool:
		other := pick(r.dice, pool()[:6])
		return api.Expr{Kind: api.ExBin, Op: api.OpEq, Subs: []api.Expr{part(other), part(other)}}
	}
	return r.atom(u, on)
}

// call makes a call of a node ahead that has these outputs, if there is one.
func (r spot) call(outs []api.Ty, on string, depth int) (api.Expr, bool) {
	var l []api.Node
	for _, n := range r.p.Nodes[:r.node] {
		if slices.EqualFunc(n.Outs, outs, func(d api.Decl, u api.Ty) bool { return d.Ty == u }) {
			l = append(l, n)
		}
	}
	if len(l) == 0 {
		return api.Expr{}, false
	}
	n := pick(r.dice, l)
	var args, resets []api.Expr
	for _, d := range n.Ins {
		args = append(args, r.expr(d.Ty, on, depth-1))
	}
	if r.IntN(2) == 0 {
		resets = []api.Expr{r.expr(api.Ty{Kind: api.KBool}, on, depth-1)}
	}
	return call(n.Name, args, resets...), true
}

// right makes a right expression of that type that is there on that clock.
func (r spot) right(u api.Ty, on string) api.Expr {
	for {
		if e := r.expr(u, on, r.IntN(5)); expr.Right(e) {
			return e
		}
	}
}

// spoilt is e with a part of it changed, of its type still; it is not always there on another clock, or on none, then, but is right.
func (r spot) spoilt(e api.Expr) api.Expr {
	for range 20 {
		x := put(e, r.IntN(expr.Size(e)), r.other)
		if expr.Right(x) && !expr.Same(x, e) {
			return x
		}
	}
	return e
}

// other makes another part of a part, of the same type mostly.
func (r spot) other(e api.Expr) api.Expr {
	e.Subs, e.Arms = slices.Clone(e.Subs), slices.Clone(e.Arms)
	u, _ := types.Of(r.p, r.node, e)
	alike := func(name string) string {
		d, _ := prog.Decl(r.p.Nodes[r.node], name)
		l := slices.DeleteFunc(own(r.p.Nodes[r.node]), func(x api.Decl) bool { return x.Ty != d.Ty })
		return pick(r.dice, l).Name
	}
	switch r.IntN(8) {
	case 0, 1, 2:
		switch e.Kind {
		case api.ExVar, api.ExWhen, api.ExMerge:
			e.Name = alike(e.Name)
		}
	case 3:
		if e.Kind == api.ExWhen {
			e.Arms[0] = pick(r.dice, r.arms(e.Name))
		}
	case 4:
		if e.Kind == api.ExWhen {
			return e.Subs[0]
		}
	case 5:
		if l := r.deciders(ever); len(l) > 0 && r.IntN(2) == 0 {
			name := pick(r.dice, l)
			return when(name, pick(r.dice, r.arms(name)), e)
		}
	case 6:
		if n := len(e.Subs); n > 1 {
			i, k := r.IntN(n), r.IntN(n)
			e.Subs[i], e.Subs[k] = e.Subs[k], e.Subs[i]
		}
	case 7:
		if d := pick(r.dice, own(r.p.Nodes[r.node])); d.Ty == u {
			return variable(d.Name)
		}
	}
	return e
}

// decls makes up to so many variables of names that begin so.
func (r dice) decls(first string, least, most int) []api.Decl {
	var l []api.Decl
	for i := range least + r.IntN(most-least+1) {
		l = append(l, api.Decl{Name: first + strconv.Itoa(i), Ty: pick(r, pool())})
	}
	return l
}

// program makes a program with which nothing is wrong.
func (r dice) program() api.Program {
	p := api.Program{Enums: []api.Enum{{Name: "way", Ctors: []string{"Up", "Down", "Left"}}, {Name: "hue", Ctors: []string{"Red", "Green"}}}}
	for i := range 1 + r.IntN(3) {
		p.Nodes = append(p.Nodes, api.Node{Name: "n" + strconv.Itoa(i), Ins: r.decls("a", 1, 4), Outs: r.decls("y", 1, 2), Vars: r.decls("v", 2, 8)})
		spot{r, p, i}.fill(&p.Nodes[i])
	}
	return p
}

// fill gives clocks to a node's other variables, and equations.
func (r spot) fill(n *api.Node) {
	vars := n.Vars
	for i := range vars {
		// Of the variables only those ahead are asked, so that no row comes back.
		n.Vars = vars[:i]
		if l := r.deciders(ever); len(l) > 0 && r.IntN(4) > 0 {
			name := pick(r.dice, l)
			vars[i].On, vars[i].Ctor = name, pick(r.dice, r.arms(name))
		}
	}
	n.Vars = vars
	r.Shuffle(len(vars), reflect.Swapper(vars))
	left := own(*n)[len(n.Ins):]
	r.Shuffle(len(left), reflect.Swapper(left))
	for len(left) > 0 {
		q, rest := r.several(left)
		if len(q.Names) == 0 {
			q, rest = api.Eq{Names: []string{left[0].Name}, E: r.right(left[0].Ty, rowed(r.p, r.node, left[0].Name))}, left[1:]
		}
		n.Eqs, left = append(n.Eqs, q), rest
	}
}

// several makes an equation of variables of l on one clock that has a call, if they go together with the outputs of a node ahead, and tells those that are left.
func (r spot) several(l []api.Decl) (api.Eq, []api.Decl) {
	if r.node == 0 || r.IntN(3) == 0 {
		return api.Eq{}, l
	}
	var names []string
	var outs []api.Ty
	rest := slices.Clone(l)
	on := rowed(r.p, r.node, l[0].Name)
	for _, d := range pick(r.dice, r.p.Nodes[:r.node]).Outs {
		i := slices.IndexFunc(rest, func(x api.Decl) bool { return x.Ty == d.Ty && rowed(r.p, r.node, x.Name) == on })
		if i < 0 {
			return api.Eq{}, l
		}
		names, outs = append(names, rest[i].Name), append(outs, d.Ty)
		rest = slices.Delete(rest, i, i+1)
	}
	e, ok := r.call(outs, on, 2)
	if !ok || !expr.Right(e) {
		return api.Eq{}, l
	}
	return api.Eq{Names: names, E: e}, rest
}

// P17.1, P17.2, P17.4: what chance makes for a clock is there on it; spoilt, it is there where it is reckoned by texts, or nowhere.
func TestFitsByChance(t *testing.T) {
	r := dice{rand.New(rand.NewPCG(17, 2))}
	well, spoilt := map[int]int{}, map[int]int{}
	for range 800 {
		p := r.program()
		x := spot{r, p, r.IntN(len(p.Nodes))}
		all := clocks(p, x.node)
		for _, d := range own(p.Nodes[x.node]) {
			row(t, p, x.node, d.Name, rowed(p, x.node, d.Name))
		}
		for range 6 {
			on := pick(r, all)
			e := x.right(pick(r, pool()), on)
			fits(t, p, x.node, e, conds(t, on), true)
			well[e.Kind] += min(1, len(on))
			for range 3 {
				want := reckoned(p, x.node, e)
				for _, s := range all {
					fits(t, p, x.node, e, conds(t, s), want == ever || want == s)
				}
				for _, c := range nearby(t, on) {
					fits(t, p, x.node, e, c, want == ever || want == text(c))
				}
				if want == never {
					spoilt[e.Kind]++
				}
				e = x.spoilt(e)
			}
		}
	}
	for kind := api.ExNum; kind <= api.ExSet; kind++ {
		if well[kind] < 20 {
			t.Errorf("%d of the kind %d are there on a clock", well[kind], kind)
		}
		if kind > api.ExCtor && spoilt[kind] < 30 {
			t.Errorf("%d of the kind %d are there on none", spoilt[kind], kind)
		}
	}
}

// spoil changes something of p; not always is something wrong with it then.
func (r dice) spoil(p *api.Program) {
	i := r.IntN(len(p.Nodes))
	n := &p.Nodes[i]
	x := spot{r, *p, i}
	k := r.IntN(len(n.Eqs))
	q := &n.Eqs[k]
	switch r.IntN(8) {
	case 0, 1:
		d := &n.Vars[r.IntN(len(n.Vars))]
		*d = api.Decl{Name: d.Name, Ty: d.Ty}
		if l := x.deciders(ever); len(l) > 0 && r.IntN(4) > 0 {
			d.On = pick(r, l)
			d.Ctor = pick(r, x.arms(d.On))
		}
	case 2:
		d := &n.Vars[r.IntN(len(n.Vars))]
		if d.On != "" {
			d.Ctor = pick(r, x.arms(d.On))
		}
	case 3:
		other := &n.Eqs[r.IntN(len(n.Eqs))]
		a, _ := prog.Decl(*n, q.Names[0])
		b, _ := prog.Decl(*n, other.Names[0])
		if a.Ty == b.Ty {
			q.Names[0], other.Names[0] = other.Names[0], q.Names[0]
		}
	default:
		q.E = x.spoilt(q.E)
	}
}

// P17.3, P17.4: what chance makes is all right; spoilt, it is told as it is reckoned by texts.
func TestCheckByChance(t *testing.T) {
	r := dice{rand.New(rand.NewPCG(17, 3))}
	count := map[api.Fault]int{}
	several := 0
	for range 2000 {
		p := r.program()
		answers(t, "as it is made", p, fine())
		for i, n := range p.Nodes {
			for _, q := range n.Eqs {
				if len(q.Names) > 1 && rowed(p, i, q.Names[0]) != "" {
					several++
				}
			}
		}
		laws(t, p)
		for range 1 + r.IntN(3) {
			r.spoil(&p)
			want := wrongs(p)
			answers(t, "as it is spoilt", p, want)
			if want == fine() {
				laws(t, p)
			}
			want.Eq = min(want.Eq, 3)
			count[want]++
		}
	}
	for node := range 3 {
		for eq := range 5 {
			if f := untimely(node, eq-1); count[f] < 10 {
				t.Errorf("%+v is told %d times", f, count[f])
			}
		}
	}
	if count[fine()] < 500 || several < 20 {
		t.Errorf("%d are all right, %d equations have several names on a row", count[fine()], several)
	}
}

// differences change a field, or a list, of that kind; some change nothing, where a list is short.
func differences(kind reflect.Kind) []func(reflect.Value) {
	var l []func(reflect.Value)
	list := func(least int, change func(reflect.Value)) {
		l = append(l, func(v reflect.Value) {
			if v.Len() >= least {
				change(v)
			}
		})
	}
	swap := func(v reflect.Value, i, j int) { reflect.Swapper(v.Interface())(i, j) }
	switch kind {
	case reflect.String:
		for _, s := range []string{"", "nope", "b", "c", "d", "g", "h", "i", "k", "l", "m", "n", "o", "p", "s", "v", "w", "y", "half", "Up", "Left", "true", "false"} {
			l = append(l, func(v reflect.Value) { v.SetString(s) })
		}
	case reflect.Int, reflect.Int64:
		for _, n := range []int64{0, 1, 2, 3, 4, api.ExWhen, api.ExOld} {
			l = append(l, func(v reflect.Value) { v.SetInt(n) })
		}
	case reflect.Slice:
		list(1, func(v reflect.Value) { v.Set(reflect.Append(v, v.Index(0))) })
		list(1, func(v reflect.Value) { v.SetLen(v.Len() - 1) })
		list(1, func(v reflect.Value) { v.Set(v.Slice(1, v.Len())) })
		list(1, func(v reflect.Value) { v.SetZero() })
		list(2, func(v reflect.Value) { swap(v, 0, 1) })
		list(2, func(v reflect.Value) { swap(v, v.Len()-2, v.Len()-1) })
		list(2, func(v reflect.Value) { v.Index(0).Set(v.Index(1)) })
	}
	return l
}

// at is what each goes through as its n-th.
func at(p *api.Program, n int) reflect.Value {
	var there reflect.Value
	each(p, func(v reflect.Value) {
		if n == 0 {
			there = v
		}
		n--
	})
	return there
}

// P17.3: what is changed in one field, or in one list, is told as it is reckoned by texts.
func TestButOne(t *testing.T) {
	count := map[api.Fault]int{}
	var kinds []reflect.Kind
	p := program(t, yard)
	each(&p, func(v reflect.Value) { kinds = append(kinds, v.Kind()) })
	for n, kind := range kinds {
		for _, change := range differences(kind) {
			p := program(t, yard)
			change(at(&p, n))
			want := wrongs(p)
			count[want]++
			answers(t, "a change", p, want)
			if want == fine() {
				laws(t, p)
			}
		}
	}
	for j := range p.Nodes[main].Eqs {
		// Nothing that is changed in what is a constant is told.
		if j != 6 && count[untimely(main, j)] < 4 {
			t.Errorf("the equation %d is told %d times", j, count[untimely(main, j)])
		}
	}
	if count[fine()] < 100 || count[untimely(main, -1)] < 4 {
		t.Errorf("%d are let be, variables are told %d times", count[fine()], count[untimely(main, -1)])
	}
}

// Rules: what is told hangs on what is asked alone, not on what was asked ahead of it.
func TestEachAlone(t *testing.T) {
	texts := []string{
		yard, whole(),
		"node f(c: bool; h: int) returns (b: int) let b = h; tel",
		"node f(c: bool) returns (b: int) var h: int when c; let b = h; h = 1; tel",
		"node f(c: bool) returns (b: int) var h: int when not c; let b = merge c (true -> 1) (false -> h); h = b when not c; tel",
		"enum way { Up }; node f(c: way) returns (b: int) var h: int when Up(c); let b = merge c (Up -> h); h = 1; tel",
		"node f(c: bool) returns (b: int) var h: bool when h; let b = 1; h = c; tel",
		"node f(c: bool) returns (b: int) var h: int when Nope(c); let b = 1; h = b when c; tel",
	}
	l := []api.Expr{variable("b"), variable("h"), expression(t, "h when c"), expression(t, "1 when c"), expression(t, "merge c (true -> 1) (false -> h)"), expression(t, "merge b (true -> h) (false -> 1)")}
	ask := func(p api.Program) []any {
		all := []any{clock.Check(p)}
		for _, name := range []string{"b", "c", "h", "nope"} {
			on, ok := clock.Row(p, 0, name)
			all = append(all, text(on), ok)
		}
		for _, e := range l {
			for _, s := range []string{"", "c=1;", "c=0;", "h=1;"} {
				all = append(all, clock.Fits(p, 0, e, conds(t, s)))
			}
		}
		return all
	}
	var alone [][]any
	for _, s := range texts {
		alone = append(alone, ask(program(t, s)))
	}
	for range 10 {
		for i, s := range texts {
			for j, u := range texts {
				if !reflect.DeepEqual(ask(program(t, s)), alone[i]) || !reflect.DeepEqual(ask(program(t, u)), alone[j]) {
					t.Fatalf("%s and %s are told otherwise", s, u)
				}
			}
		}
	}
	for i, want := range []api.Fault{fine(), fine(), fine(), untimely(0, 0), fine(), fine(), untimely(0, -1), fault(0, -1, api.ErrNone)} {
		if alone[i][0] != want {
			t.Errorf("%s is told %+v", texts[i], alone[i][0])
		}
	}
}

// P17.1: nobody who puts something behind a row that was answered, or changes it, changes what is answered from then on.
func TestRowIsNew(t *testing.T) {
	p := program(t, yard)
	for _, d := range own(p.Nodes[main]) {
		a, _ := clock.Row(p, main, d.Name)
		before := text(a)
		b, _ := clock.Row(p, main, d.Name)
		for _, l := range [][]api.Cond{a[:cap(a)], b[:cap(b)]} {
			for i := range l {
				l[i] = api.Cond{Var: "nope", Val: 9}
			}
		}
		row(t, p, main, d.Name, before)
	}
}
