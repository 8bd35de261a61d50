package parse

import (
	"noria/api"
	"noria/lex"
)

// The levels have the names of their lines in the chapter (P11.1). Each is handed on as a value to what reads it next, with others behind it.

func (r *reading) arrow() {
	r.right(r.fby, "->", api.ExArrow, r.arrow)
}

func (r *reading) fby() {
	r.right(r.or, "fby", api.ExFby, r.fby)
}

func (r *reading) or() {
	r.left(r.and, api.OpOr, api.OpXor)
}

func (r *reading) and() {
	r.left(r.cmp, api.OpAnd)
}

func (r *reading) cmp() {
	r.once(r.sum, api.OpEq, api.OpNe, api.OpLt, api.OpLe, api.OpGt, api.OpGe)
}

func (r *reading) sum() {
	r.left(r.prod, api.OpAdd, api.OpSub)
}

func (r *reading) prod() {
	r.left(r.un, api.OpMul, api.OpDiv, api.OpMod)
}

func (r *reading) un() {
	if op := r.operator(api.OpNeg, api.OpNot); op != 0 {
		r.next(r.un, r.made(&api.Expr{Kind: api.ExUn, Op: op}, 0))
	} else if r.took("pre") {
		r.next(r.un, r.made(&api.Expr{Kind: api.ExPre}, 0))
	} else {
		r.next(r.post)
	}
}

func (r *reading) post() {
	r.next(r.atom, r.behind)
}

// behind reads what may stand behind an atom, as often as it is there.
func (r *reading) behind() {
	if r.took("[") {
		r.next(r.arrow, r.sign("]"), r.made(&api.Expr{Kind: api.ExAt}, 1), r.behind)
	} else if r.took("when") {
		name, arm := r.when()
		r.next(r.made(&api.Expr{Kind: api.ExWhen, Name: name, Arms: []string{arm}}, 1), r.behind)
	}
}

// when tells the variable and the arm.
func (r *reading) when() (string, string) {
	if r.took("not") {
		return r.name(), "false"
	}
	if !r.isArm() {
		return r.name(), "true"
	}
	arm := r.arm()
	r.take("(")
	name := r.name()
	r.take(")")
	return name, arm
}

func (r *reading) atom() {
	switch {
	case r.took("("):
		r.next(r.arrow, r.bracketed)
	case r.took("["):
		r.list("]", r.made(&api.Expr{Kind: api.ExArr}, 0))
	case r.took("if"):
		r.next(r.arrow, r.sign("then"), r.arrow, r.sign("else"), r.arrow, r.made(&api.Expr{Kind: api.ExIf}, 0))
	case r.took("merge"):
		r.merge()
	case r.isName():
		r.named()
	default:
		r.single()
	}
}

// bracketed reads what stands behind the first expression in brackets.
func (r *reading) bracketed() {
	r.next(r.sign(")"))
	if r.took("with") {
		r.next(r.sign("["), r.arrow, r.sign("]"), r.sign("="), r.arrow, r.made(&api.Expr{Kind: api.ExSet}, 1))
	}
}

// merge reads what stands behind the word merge.
func (r *reading) merge() {
	e := &api.Expr{Kind: api.ExMerge, Name: r.name()}
	made := r.made(e, 0)
	var arm func()
	more := func() {
		if r.is("(") {
			arm()
		} else {
			made()
		}
	}
	arm = func() {
		r.take("(")
		e.Arms = append(e.Arms, r.arm())
		r.take("->")
		r.next(r.arrow, r.sign(")"), more)
	}
	arm()
}

// named reads a variable or a call.
func (r *reading) named() {
	name := r.name()
	if r.took("(") {
		r.call(name)
	} else {
		r.made(&api.Expr{Kind: api.ExVar, Name: name}, 0)()
	}
}

// call reads what stands behind the bracket of a call.
func (r *reading) call(name string) {
	e := &api.Expr{Kind: api.ExCall, Name: name}
	made := r.made(e, 0)
	every := func() {
		r.next(made)
		if r.took("every") {
			e.N = 1
			r.next(r.post)
		}
	}
	if r.took(")") {
		every()
	} else {
		r.list(")", every)
	}
}

// single reads an atom of one token that is no name.
func (r *reading) single() {
	e := &api.Expr{}
	switch t := r.l[r.at]; {
	case r.is("true"):
		e.Kind, e.N = api.ExBool, 1
	case r.is("false"):
		e.Kind = api.ExBool
	case t.Kind == lex.Num:
		e.Kind, e.N = api.ExNum, t.N
	case t.Kind == lex.High:
		e.Kind, e.Name = api.ExCtor, t.S
	case t.Kind == lex.Path:
		e.Kind, e.Name = api.ExOld, t.S
	default:
		r.stop()
	}
	r.token()
	r.made(e, 0)()
}
