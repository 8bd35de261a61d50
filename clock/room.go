package clock

import (
	"slices"

	"noria/api"
	"noria/prog"
	"noria/scope"
)

// room is where a part is there, or is not: a node, among enums.
type room struct {
	enums []api.Enum
	n     api.Node
}

// row tells the clock of a variable, if it has one.
func (r room) row(name string) ([]api.Cond, bool) {
	decls, there := prog.Clock(r.n, name)
	if !there {
		return nil, false
	}
	var row []api.Cond
	for _, d := range decls {
		c, ok := r.cond(d.On, d.Ctor)
		if !ok {
			return nil, false
		}
		row = append(row, c)
	}
	return row, true
}

// cond is the condition that the variable has the value of the arm, if that has one.
func (r room) cond(name, arm string) (api.Cond, bool) {
	_, v, there := scope.Arm(r.enums, arm)
	return api.Cond{Var: name, Val: v}, there
}

// has tells whether a variable has just that clock.
func (r room) has(name string, on []api.Cond) bool {
	row, there := r.row(name)
	return there && slices.Equal(row, on)
}

// fits tells whether e can be there on that clock.
func (r room) fits(e api.Expr, on []api.Cond) bool {
	switch e.Kind {
	case api.ExNum, api.ExBool, api.ExCtor:
		return true
	case api.ExVar:
		return r.has(e.Name, on)
	case api.ExWhen:
		return r.sampled(e, on)
	case api.ExMerge:
		return r.merged(e, on)
	case api.ExFby:
		// The first part is a constant, that is there always.
		return len(e.Subs) > 1 && r.fits(e.Subs[1], on)
	case api.ExOld:
		return false
	}
	for _, s := range e.Subs {
		if !r.fits(s, on) {
			return false
		}
	}
	return true
}

// sampled tells whether a when can be there on that clock: its part is there on what is ahead of the last condition.
func (r room) sampled(e api.Expr, on []api.Cond) bool {
	if len(on) == 0 || len(e.Arms) != 1 || len(e.Subs) != 1 {
		return false
	}
	last := len(on) - 1
	ahead := on[:last:last]
	c, ok := r.cond(e.Name, e.Arms[0])
	return ok && on[last] == c && r.has(e.Name, ahead) && r.fits(e.Subs[0], ahead)
}

// merged tells whether a merge can be there on that clock: each of its parts is there on one condition more.
func (r room) merged(e api.Expr, on []api.Cond) bool {
	if len(e.Arms) != len(e.Subs) || !r.has(e.Name, on) {
		return false
	}
	// With no room behind its end each part's row is put together in memory of its own.
	on = on[:len(on):len(on)]
	for i, s := range e.Subs {
		c, ok := r.cond(e.Name, e.Arms[i])
		if !ok || !r.fits(s, append(on, c)) {
			return false
		}
	}
	return true
}

// untimed tells whether a variable has no clock.
func (r room) untimed(d api.Decl) bool {
	_, there := r.row(d.Name)
	return !there
}

// wrong tells whether the variables of an equation are not all there on one clock, or what it tells is not there on it.
func (r room) wrong(q api.Eq) bool {
	row, there := r.row(q.Names[0])
	if !there || !r.fits(q.E, row) {
		return true
	}
	for _, name := range q.Names[1:] {
		if !r.has(name, row) {
			return true
		}
	}
	return false
}
