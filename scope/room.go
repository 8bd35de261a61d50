package scope

import (
	"slices"

	"noria/api"
	"noria/expr"
)

// names are names, each of them once.
type names map[string]struct{}

func (l names) add(name string) {
	l[name] = struct{}{}
}

func (l names) has(name string) bool {
	_, there := l[name]
	return there
}

// room is what the names in a node may lead to, and what is defined there so far.
type room struct {
	enums   []api.Enum
	nodes   names // those ahead of the node
	vars    names
	defined names
}

// within is the room of a node, ahead of its equations.
func within(enums []api.Enum, nodes names, n api.Node) room {
	r := room{enums: enums, nodes: nodes, vars: names{}, defined: names{}}
	for _, d := range slices.Concat(n.Ins, n.Outs, n.Vars) {
		r.vars.add(d.Name)
	}
	// What comes in is there without an equation, so that each that names it is one too many.
	for _, d := range n.Ins {
		r.defined.add(d.Name)
	}
	return r
}

// node tells what is wrong first in the node, and in which equation.
func (r room) node(n api.Node) (int, api.Errno) {
	if slices.ContainsFunc(n.Vars, r.untimed) {
		return noEq, api.ErrNone
	}
	if at, err := r.eqs(n.Eqs); err != api.OK {
		return at, err
	}
	if slices.ContainsFunc(n.Outs, r.undefined) || slices.ContainsFunc(n.Vars, r.undefined) {
		return noEq, api.ErrNone
	}
	return noEq, api.OK
}

// eqs tells what is wrong first in the equations, and in which.
func (r room) eqs(l []api.Eq) (int, api.Errno) {
	at, err := noEq, api.OK
equations:
	for i, q := range l {
		at = i
		for _, name := range q.Names {
			err = r.define(name)
			if err != api.OK {
				break equations
			}
		}
		for part := range expr.Each(q.E) {
			if !r.leads(part) {
				err = api.ErrNone
				break equations
			}
		}
	}
	return at, err
}

// define takes a name as that of a variable that is defined from now on, and tells what is wrong with that.
func (r room) define(name string) api.Errno {
	switch {
	case !r.vars.has(name):
		return api.ErrNone
	case r.defined.has(name):
		return api.ErrThere
	}
	r.defined.add(name)
	return api.OK
}

// leads tells whether the names of a part, without those of the parts in it, lead somewhere.
func (r room) leads(part api.Expr) bool {
	switch part.Kind {
	case api.ExVar:
		return r.vars.has(part.Name)
	case api.ExWhen, api.ExMerge:
		return r.vars.has(part.Name) && !slices.ContainsFunc(part.Arms, r.noArm)
	case api.ExCtor:
		return !r.noArm(part.Name)
	case api.ExCall:
		return r.nodes.has(part.Name)
	case api.ExOld:
		// What was kept is there in migrations alone.
		return false
	}
	return true
}

// untimed tells whether a variable is there on a value that leads nowhere.
func (r room) untimed(d api.Decl) bool {
	return d.On != "" && (!r.vars.has(d.On) || r.noArm(d.Ctor))
}

func (r room) undefined(d api.Decl) bool {
	return !r.defined.has(d.Name)
}

func (r room) noArm(arm string) bool {
	_, _, there := Arm(r.enums, arm)
	return !there
}
