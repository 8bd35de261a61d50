package types

import (
	"slices"

	"noria/api"
	"noria/arith"
	"noria/prog"
	"noria/scope"
	"noria/ty"
)

// room is where a part has its type: a node, and the program whose node it is.
type room struct {
	p api.Program
	n api.Node
}

// of tells the type of e, which is right.
func (r room) of(e api.Expr) (api.Ty, bool) {
	switch e.Kind {
	case api.ExNum, api.ExBool, api.ExCtor:
		_, t, ok := Const(r.p.Enums, e)
		return t, ok
	case api.ExVar:
		return r.variable(e.Name)
	}
	l, ok := r.each(e.Subs...)
	if !ok {
		return api.Ty{}, false
	}
	return r.over(e, l)
}

// each tells the types of all of l, if each has one.
func (r room) each(l ...api.Expr) ([]api.Ty, bool) {
	var types []api.Ty
	for _, e := range l {
		t, ok := r.of(e)
		if !ok {
			return nil, false
		}
		types = append(types, t)
	}
	return types, true
}

// over tells the type of e, whose Subs have the types l.
func (r room) over(e api.Expr, l []api.Ty) (api.Ty, bool) {
	switch e.Kind {
	case api.ExUn:
		return arith.UnTy(e.Op, l[0])
	case api.ExBin:
		return arith.BinTy(e.Op, l[0], l[1])
	case api.ExIf:
		return only(l[1], all(single(api.KBool), l[0]) && all(l[1], l[2]))
	case api.ExFby:
		_, first, ok := Const(r.p.Enums, e.Subs[0])
		return only(l[1], ok && all(l[1], first))
	case api.ExArrow:
		return only(l[0], all(l[0], l[1]))
	case api.ExPre:
		return l[0], true
	case api.ExWhen:
		return only(l[0], r.takes(e.Name, e.Arms...))
	case api.ExMerge:
		return only(l[0], all(l[0], l...) && r.merges(e.Name, e.Arms))
	case api.ExCall:
		return r.called(e, l)
	case api.ExArr:
		t := l[0]
		t.Len = len(l)
		return only(t, all(ty.One(t), l...))
	case api.ExAt:
		return only(ty.One(l[0]), placed(l))
	case api.ExSet:
		return only(l[0], placed(l) && all(ty.One(l[0]), l[2]))
	}
	// What was kept has a type in migrations alone.
	return api.Ty{}, false
}

// called tells the type of the one output that the node of a call has.
func (r room) called(e api.Expr, l []api.Ty) (api.Ty, bool) {
	outs, ok := r.call(e, l)
	if !ok || len(outs) != 1 {
		return api.Ty{}, false
	}
	return outs[0], true
}

// call tells the types of the outputs that the node of a call has, if the types of the call's Subs are as that node asks.
func (r room) call(e api.Expr, l []api.Ty) ([]api.Ty, bool) {
	at := prog.Find(r.p, e.Name)
	if at < 0 {
		return nil, false
	}
	n, args := r.p.Nodes[at], len(l)-int(e.N)
	if !slices.Equal(l[:args], declared(n.Ins)) || !all(single(api.KBool), l[args:]...) {
		return nil, false
	}
	return declared(n.Outs), true
}

// wrong tells whether what an equation tells has not the types of its variables.
func (r room) wrong(q api.Eq) bool {
	told, ok := r.told(q.E)
	return !ok || !slices.EqualFunc(q.Names, told, r.has)
}

// told tells the types of all that an equation tells of e: of a call alone these may be several.
func (r room) told(e api.Expr) ([]api.Ty, bool) {
	if e.Kind != api.ExCall {
		t, ok := r.of(e)
		return []api.Ty{t}, ok
	}
	l, ok := r.each(e.Subs...)
	if !ok {
		return nil, false
	}
	return r.call(e, l)
}

// variable tells the type of the variable of that name.
func (r room) variable(name string) (api.Ty, bool) {
	d, there := prog.Decl(r.n, name)
	return d.Ty, there
}

// has tells whether the variable of that name is there, with the type t.
func (r room) has(name string, t api.Ty) bool {
	u, there := r.variable(name)
	return there && u == t
}

// takes tells whether the variable of that name has the type that each of the arms has.
func (r room) takes(name string, arms ...string) bool {
	for _, arm := range arms {
		t, _, there := scope.Arm(r.p.Enums, arm)
		if !there || !r.has(name, t) {
			return false
		}
	}
	return true
}

// merges tells whether the arms are those of all values of the variable of that name, in order.
func (r room) merges(name string, arms []string) bool {
	if !r.takes(name, arms...) {
		return false
	}
	t, _ := r.variable(name)
	if t.Kind == api.KBool {
		return slices.Equal(arms, []string{"true", "false"})
	}
	return slices.Equal(arms, r.p.Enums[t.Enum].Ctors)
}

// mistimed tells whether a variable is there on a value that the variable of its clock can't have.
func (r room) mistimed(d api.Decl) bool {
	return d.On != "" && !r.takes(d.On, d.Ctor)
}

// placed tells whether l begins with an array and a place.
func placed(l []api.Ty) bool {
	return l[0].Len > 0 && all(single(api.KInt), l[1])
}

// declared tells the types that variables are declared with.
func declared(l []api.Decl) []api.Ty {
	var types []api.Ty
	for _, d := range l {
		types = append(types, d.Ty)
	}
	return types
}
