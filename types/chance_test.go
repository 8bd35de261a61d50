package types_test

import (
	"math"
	"math/rand/v2"
	"reflect"
	"slices"
	"strconv"
	"testing"

	"noria/api"
	"noria/expr"
	"noria/prog"
	"noria/scope"
	"noria/ty"
	"noria/types"
)

// wrongs tells by texts alone what is wrong first with the types of p, if scope.Check lets it be.
func wrongs(p api.Program) api.Fault {
	if f := scope.Check(p); f != fine() {
		return f
	}
	for i, n := range p.Nodes {
		for _, d := range own(n) {
			if d.On != "" && declared(p, i, d.On) != armed(p, d.Ctor) {
				return mistyped(i, -1)
			}
		}
		for j, q := range n.Eqs {
			var asked, subs []string
			for _, s := range q.Names {
				asked = append(asked, declared(p, i, s))
			}
			told := []string{reckoned(p, i, q.E)}
			if q.E.Kind == api.ExCall {
				for _, s := range q.E.Subs {
					subs = append(subs, reckoned(p, i, s))
				}
				told = called(p, q.E.Name, subs, int(q.E.N))
			}
			if !slices.Equal(asked, told) {
				return mistyped(i, j)
			}
		}
	}
	return fine()
}

// differences change a field, or a list, of that kind; some change nothing, where a list is short.
func differences(kind reflect.Kind) []func(reflect.Value) {
	var l []func(reflect.Value)
	list := func(least int, change func(reflect.Value)) {
		l = append(l, func(v reflect.Value) {
			if v.Len() >= least {
				change(v)
			}
		})
	}
	swap := func(v reflect.Value, i, j int) { reflect.Swapper(v.Interface())(i, j) }
	switch kind {
	case reflect.String:
		for _, s := range []string{"", "nope", "a", "c", "m", "e", "t", "y", "z", "h", "r", "d", "u", "f", "g", "pair", "way", "Up", "Left", "Red", "Green", "Nope", "true", "false"} {
			l = append(l, func(v reflect.Value) { v.SetString(s) })
		}
	case reflect.Int, reflect.Int64:
		for n := range int64(18) {
			l = append(l, func(v reflect.Value) { v.SetInt(n) })
		}
		for _, n := range []int64{-1, math.MaxInt64} {
			l = append(l, func(v reflect.Value) { v.SetInt(n) })
		}
	case reflect.Slice:
		list(1, func(v reflect.Value) { v.Set(reflect.Append(v, v.Index(0))) })
		list(1, func(v reflect.Value) { v.Set(reflect.Append(v, v.Index(v.Len()-1))) })
		list(1, func(v reflect.Value) { v.SetLen(v.Len() - 1) })
		list(1, func(v reflect.Value) { v.Set(v.Slice(1, v.Len())) })
		list(1, func(v reflect.Value) { v.SetZero() })
		list(2, func(v reflect.Value) { swap(v, 0, 1) })
		list(2, func(v reflect.Value) { swap(v, v.Len()-2, v.Len()-1) })
		list(2, func(v reflect.Value) { swap(v, 0, v.Len()-1) })
		list(2, func(v reflect.Value) { v.Index(0).Set(v.Index(1)) })
	}
	return l
}

// at is what each goes through as its n-th.
func at(p *api.Program, n int) reflect.Value {
	var there reflect.Value
	each(p, func(v reflect.Value) {
		if n == 0 {
			there = v
		}
		n--
	})
	return there
}

// P16.3: what is changed in one field, or in one list, is told as it is reckoned by texts.
func TestButOne(t *testing.T) {
	count := map[api.Fault]int{}
	var kinds []reflect.Kind
	p := program(t, town)
	each(&p, func(v reflect.Value) { kinds = append(kinds, v.Kind()) })
	for n, kind := range kinds {
		for _, change := range differences(kind) {
			p := program(t, town)
			change(at(&p, n))
			want := wrongs(p)
			count[want]++
			answers(t, "a change", p, want)
		}
	}
	for i, n := range program(t, town).Nodes {
		for j := range n.Eqs {
			if count[mistyped(i, j)] < 1 {
				t.Errorf("the equation %d of the node %d is never told", j, i)
			}
		}
		// The node 2 has no clocks.
		if i != 2 && count[mistyped(i, -1)] < 4 {
			t.Errorf("the clocks of the node %d are told %d times", i, count[mistyped(i, -1)])
		}
	}
	if count[fine()] < 100 {
		t.Errorf("%d are let be", count[fine()])
	}
}

// dice makes programs by chance.
type dice struct{ *rand.Rand }

func pick[T any](r dice, l []T) T {
	return l[r.IntN(len(l))]
}

// pool are the types of variables of these programs.
func pool() []api.Ty {
	return []api.Ty{
		{Kind: api.KInt}, {Kind: api.KInt}, {Kind: api.KBool}, {Kind: api.KBool}, {Kind: api.KEnum}, {Kind: api.KEnum, Enum: 1}, {Kind: api.KEnum, Enum: 2},
		{Kind: api.KInt, Len: 1}, {Kind: api.KInt, Len: 2}, {Kind: api.KBool, Len: 2}, {Kind: api.KEnum, Len: 3}, {Kind: api.KEnum, Enum: 2, Len: 1},
	}
}

// spot is where an expression is made: in a node of a program, with the variables that it has already.
type spot struct {
	dice
	p    api.Program
	node int
}

// vars are the variables of a type, or those over which there may be a when, if that is the zero one.
func (r spot) vars(u api.Ty) []string {
	var l []string
	for _, d := range own(r.p.Nodes[r.node]) {
		if d.Ty == u || u == (api.Ty{}) && d.Ty.Kind != api.KInt && d.Ty.Len == 0 {
			l = append(l, d.Name)
		}
	}
	return l
}

// arms are those of a variable.
func (r spot) arms(name string) []string {
	d, _ := prog.Decl(r.p.Nodes[r.node], name)
	if d.Ty.Kind == api.KBool {
		return []string{"true", "false"}
	}
	return r.p.Enums[d.Ty.Enum].Ctors
}

// constant makes a constant of a type.
func (r spot) constant(u api.Ty) api.Expr {
	if u.Len > 0 {
		e := over(api.ExArr)
		for range u.Len {
			e.Subs = append(e.Subs, r.constant(ty.One(u)))
		}
		return e
	}
	switch u.Kind {
	case api.KInt:
		return pick(r.dice, []api.Expr{number(0), number(r.Int64()), less(r.Int64())})
	case api.KBool:
		return truth(r.Int64N(2))
	}
	return ctor(pick(r.dice, r.p.Enums[u.Enum].Ctors))
}

// atom makes a variable of a type, or a constant.
func (r spot) atom(u api.Ty) api.Expr {
	if l := r.vars(u); len(l) > 0 && r.IntN(4) > 0 {
		return variable(pick(r.dice, l))
	}
	return r.constant(u)
}

// expr makes an expression that has that type.
func (r spot) expr(u api.Ty, depth int) api.Expr {
	if depth == 0 {
		return r.atom(u)
	}
	part := func(v api.Ty) api.Expr { return r.expr(v, depth-1) }
	truths := api.Ty{Kind: api.KBool}
	switch r.IntN(10) {
	case 0:
		return over(api.ExIf, part(truths), part(u), part(u))
	case 1:
		return over(api.ExFby, r.constant(u), part(u))
	case 2:
		return over(api.ExArrow, part(u), part(u))
	case 3:
		return over(api.ExPre, part(u))
	case 4, 5:
		if l := r.vars(api.Ty{}); len(l) > 0 {
			s := pick(r.dice, l)
			if r.IntN(2) == 0 {
				return named(api.ExWhen, s, []string{pick(r.dice, r.arms(s))}, part(u))
			}
			e := named(api.ExMerge, s, r.arms(s))
			for range e.Arms {
				e.Subs = append(e.Subs, part(u))
			}
			return e
		}
	case 6, 7:
		if e, ok := r.call([]api.Ty{u}, depth); ok {
			return e
		}
	}
	if u.Len > 0 {
		return r.array(u, part)
	}
	return r.cell(u, part)
}

// array makes an array: of its cells, or of another one.
func (r spot) array(u api.Ty, part func(api.Ty) api.Expr) api.Expr {
	if r.IntN(2) == 0 {
		return over(api.ExSet, part(u), part(api.Ty{Kind: api.KInt}), part(ty.One(u)))
	}
	e := over(api.ExArr)
	for range u.Len {
		e.Subs = append(e.Subs, part(ty.One(u)))
	}
	return e
}

// cell makes what is no array: by an operator, or of one.
func (r spot) cell(u api.Ty, part func(api.Ty) api.Expr) api.Expr {
	number := api.Ty{Kind: api.KInt}
	if u.Kind == api.KEnum || r.IntN(3) == 0 {
		u.Len = 1 + r.IntN(3)
		return over(api.ExAt, part(u), part(number))
	}
	if u.Kind == api.KInt {
		return pick(r.dice, []api.Expr{operated(api.OpNeg, part(u)), operated(api.OpAdd+r.IntN(5), part(u), part(u))})
	}
	other := pool()[r.IntN(7)]
	return pick(r.dice, []api.Expr{
		operated(api.OpNot, part(u)), operated(api.OpAnd+r.IntN(3), part(u), part(u)), operated(api.OpLt+r.IntN(4), part(number), part(number)), operated(api.OpEq+r.IntN(2), part(other), part(other)),
	})
}

// call makes a call of a node ahead that has these outputs, if there is one.
func (r spot) call(outs []api.Ty, depth int) (api.Expr, bool) {
	var l []api.Node
	for _, n := range r.p.Nodes[:r.node] {
		if slices.EqualFunc(n.Outs, outs, func(d api.Decl, u api.Ty) bool { return d.Ty == u }) {
			l = append(l, n)
		}
	}
	if len(l) == 0 {
		return api.Expr{}, false
	}
	n := pick(r.dice, l)
	var args, resets []api.Expr
	for _, d := range n.Ins {
		args = append(args, r.expr(d.Ty, depth-1))
	}
	if r.IntN(2) == 0 {
		resets = []api.Expr{r.expr(api.Ty{Kind: api.KBool}, depth-1)}
	}
	return call(n.Name, args, resets...), true
}

// right makes a right expression of that type.
func (r spot) right(u api.Ty) api.Expr {
	for {
		if e := r.expr(u, r.IntN(5)); expr.Right(e) {
			return e
		}
	}
}

// spoilt is e with a part of it changed; it has not always another type, or none, then, but is right.
func (r spot) spoilt(e api.Expr) api.Expr {
	for range 20 {
		x := put(e, r.IntN(expr.Size(e)), r.other)
		if expr.Right(x) {
			return x
		}
	}
	return e
}

// other makes another part of a part.
func (r spot) other(e api.Expr) api.Expr {
	e.Subs, e.Arms = slices.Clone(e.Subs), slices.Clone(e.Arms)
	n := len(e.Subs)
	switch r.IntN(8) {
	case 0, 1:
		return r.atom(pick(r.dice, pool()))
	case 2:
		e.Op = api.OpNeg + r.IntN(16)
	case 3:
		e.Name = pick(r.dice, own(r.p.Nodes[r.node])).Name
		if e.Kind == api.ExCall {
			e.Name = pick(r.dice, r.p.Nodes).Name
		}
	case 4:
		if n > 1 {
			i, k := r.IntN(n), r.IntN(n)
			e.Subs[i], e.Subs[k] = e.Subs[k], e.Subs[i]
		}
	case 5:
		if k := len(e.Arms); k > 0 {
			i, j := r.IntN(k), r.IntN(k)
			e.Arms[i], e.Arms[j] = e.Arms[j], e.Arms[i]
			if r.IntN(2) == 0 {
				e.Arms[i] = pick(r.dice, arms(r.p.Enums))
			}
		}
	case 6:
		if e.Kind == api.ExCall {
			e.N = 1 - e.N
		}
	case 7:
		if n > 0 {
			e.Subs = append(e.Subs, r.atom(pick(r.dice, pool())))
			if len(e.Arms) > 0 {
				e.Arms = append(e.Arms, pick(r.dice, arms(r.p.Enums)))
			}
			if r.IntN(2) == 0 {
				e.Subs, e.Arms = e.Subs[:n-1], e.Arms[:max(0, len(e.Arms)-2)]
			}
		}
	}
	return e
}

// decls makes up to so many variables of names that begin so.
func (r dice) decls(first string, least, most int) []api.Decl {
	var l []api.Decl
	for i := range least + r.IntN(most-least+1) {
		l = append(l, api.Decl{Name: first + strconv.Itoa(i), Ty: pick(r, pool())})
	}
	return l
}

// program makes a program with which nothing is wrong.
func (r dice) program() api.Program {
	p := api.Program{Enums: []api.Enum{enum("way", "Up", "Down", "Left"), enum("hue", "Red", "Green"), enum("one", "Only")}}
	for i := range 1 + r.IntN(4) {
		p.Nodes = append(p.Nodes, api.Node{Name: "n" + strconv.Itoa(i), Ins: r.decls("a", 0, 3), Outs: r.decls("y", 1, 2), Vars: r.decls("v", 0, 5)})
		spot{r, p, i}.fill(&p.Nodes[i])
	}
	return p
}

// fill gives clocks to a node's variables, and equations.
func (r spot) fill(n *api.Node) {
	if l := r.vars(api.Ty{}); len(l) > 0 {
		for i := range n.Vars {
			if s := pick(r.dice, l); r.IntN(2) == 0 {
				n.Vars[i].On, n.Vars[i].Ctor = s, pick(r.dice, r.arms(s))
			}
		}
	}
	left := own(*n)[len(n.Ins):]
	r.Shuffle(len(left), reflect.Swapper(left))
	for len(left) > 0 {
		q, rest := r.several(left)
		if len(q.Names) == 0 {
			q, rest = api.Eq{Names: []string{left[0].Name}, E: r.right(left[0].Ty)}, left[1:]
		}
		n.Eqs, left = append(n.Eqs, q), rest
	}
}

// several makes an equation of variables of l that has a call, if they go together with the outputs of a node ahead, and tells those that are left.
func (r spot) several(l []api.Decl) (api.Eq, []api.Decl) {
	if r.node == 0 || r.IntN(3) == 0 {
		return api.Eq{}, l
	}
	var names []string
	var outs []api.Ty
	rest := slices.Clone(l)
	for _, d := range pick(r.dice, r.p.Nodes[:r.node]).Outs {
		i := slices.IndexFunc(rest, func(x api.Decl) bool { return x.Ty == d.Ty })
		if i < 0 {
			return api.Eq{}, l
		}
		names, outs = append(names, rest[i].Name), append(outs, d.Ty)
		rest = slices.Delete(rest, i, i+1)
	}
	e, ok := r.call(outs, 2)
	if !ok || !expr.Right(e) {
		return api.Eq{}, l
	}
	return api.Eq{Names: names, E: e}, rest
}

// P16.2: what chance makes of a type has it; spoilt, it has the one that is reckoned by texts, or none.
func TestOfByChance(t *testing.T) {
	r := dice{rand.New(rand.NewPCG(16, 2))}
	well, spoilt := map[int]int{}, map[int]int{}
	for range 6000 {
		p := r.program()
		x := spot{r, p, r.IntN(len(p.Nodes))}
		for range 10 {
			u := pick(r, pool())
			e := x.right(u)
			is(t, p, x.node, e, ty.Text(p.Enums, u))
			well[e.Kind]++
			for range 3 {
				e = x.spoilt(e)
				want := reckoned(p, x.node, e)
				is(t, p, x.node, e, want)
				if want == "" {
					spoilt[e.Kind]++
				}
			}
		}
	}
	for kind := api.ExNum; kind <= api.ExSet; kind++ {
		if well[kind] < 100 {
			t.Errorf("%d of the kind %d have a type", well[kind], kind)
		}
		if kind > api.ExCtor && spoilt[kind] < 100 {
			t.Errorf("%d of the kind %d have none", spoilt[kind], kind)
		}
	}
}

// spoil changes something of p; not always is something wrong with it then.
func (r dice) spoil(p *api.Program) {
	i := r.IntN(len(p.Nodes))
	n := &p.Nodes[i]
	x := spot{r, *p, i}
	q := &n.Eqs[r.IntN(len(n.Eqs))]
	switch r.IntN(8) {
	case 0:
		list := pick(r, [][]api.Decl{n.Ins, n.Outs, n.Vars})
		if len(list) > 0 {
			list[r.IntN(len(list))].Ty = pick(r, pool())
		}
	case 1:
		if len(n.Vars) > 0 {
			d := &n.Vars[r.IntN(len(n.Vars))]
			d.On, d.Ctor = pick(r, own(*n)).Name, pick(r, arms(p.Enums))
		}
	case 2:
		other := &n.Eqs[r.IntN(len(n.Eqs))]
		q.E, other.E = other.E, q.E
	case 3:
		slices.Reverse(q.Names)
	case 4:
		other := &n.Eqs[r.IntN(len(n.Eqs))]
		q.Names, other.Names = other.Names, q.Names
	default:
		q.E = x.spoilt(q.E)
	}
}

// P16.3: what chance makes is all right; spoilt, it is told as it is reckoned by texts.
func TestCheckByChance(t *testing.T) {
	r := dice{rand.New(rand.NewPCG(16, 3))}
	count := map[api.Fault]int{}
	several := 0
	for range 15000 {
		p := r.program()
		answers(t, "as it is made", p, fine())
		for _, n := range p.Nodes {
			for _, q := range n.Eqs {
				several += min(1, len(q.Names)-1)
			}
		}
		for range 1 + r.IntN(3) {
			r.spoil(&p)
			want := wrongs(p)
			answers(t, "as it is spoilt", p, want)
			want.Eq = min(want.Eq, 3)
			count[want]++
		}
	}
	for node := range 4 {
		for eq := range 5 {
			if f := mistyped(node, eq-1); count[f] < 50 {
				t.Errorf("%+v is told %d times", f, count[f])
			}
		}
	}
	if count[fine()] < 1000 || several < 1000 {
		t.Errorf("%d are all right, %d equations have several names", count[fine()], several)
	}
}

// Rules: what is told hangs on what is asked alone, not on what was asked ahead of it.
func TestEachAlone(t *testing.T) {
	texts := []string{
		town, full(),
		"node f(a: int) returns (b: int) let b = a; tel",
		"node f(a: bool) returns (b: int) let b = a; tel",
		"node f(a: int) returns (b: int[1]) let b = [a]; tel",
		"enum way { Up }; node f(a: way) returns (b: way) let b = Up; tel",
		"enum hue { Red, Up }; enum way { Down }; node f(a: way) returns (b: way) let b = Up; tel",
		"node f(a: int) returns (b: int) let b = nope; tel",
		"node f(a: int) returns (b: int) var c: int when a; let b = a; c = a; tel",
	}
	l := []api.Expr{variable("a"), ctor("Up"), expression(t, "[a, 1]"), expression(t, "a + 1"), expression(t, "f(1)"), expression(t, "a = b")}
	ask := func(p api.Program) []any {
		all := []any{types.Check(p)}
		for _, e := range l {
			u, ok := types.Of(p, 0, e)
			v, w, so := types.Const(p.Enums, e)
			all = append(all, u, ok, v, w, so)
		}
		return all
	}
	var alone [][]any
	for _, s := range texts {
		alone = append(alone, ask(program(t, s)))
	}
	for range 20 {
		for i, s := range texts {
			for j, u := range texts {
				if !reflect.DeepEqual(ask(program(t, s)), alone[i]) || !reflect.DeepEqual(ask(program(t, u)), alone[j]) {
					t.Fatalf("%s and %s are told otherwise", s, u)
				}
			}
		}
	}
	for i, want := range []api.Fault{fine(), fine(), fine(), mistyped(0, 0), fine(), fine(), mistyped(0, 0), fault(0, 0, api.ErrNone), mistyped(0, -1)} {
		if alone[i][0] != want {
			t.Errorf("%s is told %+v", texts[i], alone[i][0])
		}
	}
}
