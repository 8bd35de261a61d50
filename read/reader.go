package read

import (
	"slices"

	"noria/api"
	"noria/lex"
	"noria/parse"
)

// reader lays a program of its tokens.
type reader struct {
	tokens
	laid api.Program
}

// step reads a piece of the text, and tells what is wrong with it.
type step func() error

// inTurn reads all of these, up to what is wrong.
func inTurn(l ...step) error {
	for _, read := range l {
		if err := read(); err != nil {
			return err
		}
	}
	return nil
}

// The steps have the names of their lines in the chapter (P14.1), and are put together as these are. What a step reads is laid where to points.

func (r *reader) program() error {
	return inTurn(r.while("enum", r.enum), r.while("node", r.node), r.end)
}

func (r *reader) enum() error {
	var e api.Enum
	err := inTurn(
		r.sign("enum"), r.low(&e.Name), r.sign("{"), r.list(",", r.name(lex.High, &e.Ctors)), r.sign("}"), r.sign(";"),
	)
	r.laid.Enums = append(r.laid.Enums, e)
	return err
}

func (r *reader) node() error {
	var n api.Node
	err := inTurn(
		r.sign("node"), r.low(&n.Name), r.sign("("), r.unless(")", r.decls(&n.Ins)), r.sign(")"),
		r.sign("returns"), r.sign("("), r.decls(&n.Outs), r.sign(")"),
		r.vars(&n.Vars),
		r.sign("let"), r.until("tel", r.eq(&n.Eqs)), r.sign("tel"),
	)
	r.laid.Nodes = append(r.laid.Nodes, n)
	return err
}

func (r *reader) decls(to *[]api.Decl) step {
	return r.list(";", r.decl(to))
}

// vars reads the other variables of a node, if it has some.
func (r *reader) vars(to *[]api.Decl) step {
	// A semicolon stands behind the last one, too: so the word behind it ends them.
	others := r.until("let", func() error { return inTurn(r.decl(to), r.sign(";")) })
	return func() error {
		if !r.took("var") {
			return nil
		}
		return inTurn(r.decl(to), r.sign(";"), others)
	}
}

func (r *reader) decl(to *[]api.Decl) step {
	return func() error {
		var d api.Decl
		err := inTurn(r.low(&d.Name), r.sign(":"), r.kind(&d.Ty), r.length(&d.Ty), r.when(&d))
		*to = append(*to, d)
		return err
	}
}

// kind reads a type up to its number.
func (r *reader) kind(to *api.Ty) step {
	tookEnum := func(e api.Enum) bool { return r.took(e.Name) }
	return func() error {
		switch {
		case r.took("int"):
			to.Kind = api.KInt
			return nil
		case r.took("bool"):
			to.Kind = api.KBool
			return nil
		}
		place := slices.IndexFunc(r.laid.Enums, tookEnum)
		if place < 0 {
			return r.stop()
		}
		to.Kind, to.Enum = api.KEnum, place
		return nil
	}
}

// length reads the number of a type, if it has one.
func (r *reader) length(to *api.Ty) step {
	return func() error {
		if !r.took("[") {
			return nil
		}
		n, err := r.number(api.MaxArray)
		if err != nil {
			return err
		}
		to.Len = int(n)
		return r.take("]")
	}
}

// when reads the clock of a variable, if it has one.
func (r *reader) when(to *api.Decl) step {
	return func() error {
		if !r.took("when") {
			return nil
		}
		name, arm, at, there := parse.When(r.l, r.at)
		r.at = at
		if !there {
			return r.stop()
		}
		to.On, to.Ctor = name, arm
		return nil
	}
}

func (r *reader) eq(to *[]api.Eq) step {
	return func() error {
		var q api.Eq
		err := inTurn(r.list(",", r.name(lex.Low, &q.Names)), r.sign("="), r.arrow(&q.E), r.sign(";"))
		*to = append(*to, q)
		return err
	}
}

func (r *reader) arrow(to *api.Expr) step {
	return func() error {
		e, at, err := parse.Part(r.l, r.at)
		r.at = at
		if err != api.OK {
			return r.refused(err)
		}
		*to = e
		return nil
	}
}

// low reads a name.
func (r *reader) low(to *string) step {
	return func() (err error) {
		*to, err = r.text(lex.Low)
		return err
	}
}

// name reads a name of that kind, and lays it behind others.
func (r *reader) name(kind int, to *[]string) step {
	return func() error {
		s, err := r.text(kind)
		*to = append(*to, s)
		return err
	}
}

// sign reads a word or a mark.
func (r *reader) sign(s string) step {
	return func() error { return r.take(s) }
}

// list reads one, and others, with a mark between.
func (r *reader) list(between string, one step) step {
	return func() error {
		for {
			if err := one(); err != nil || !r.took(between) {
				return err
			}
		}
	}
}

// while reads as many as there are of what begins with that word.
func (r *reader) while(word string, one step) step {
	return repeated(func() bool { return r.is(word) }, one)
}

// until reads as many as there are ahead of that word.
func (r *reader) until(word string, one step) step {
	return repeated(func() bool { return !r.is(word) }, one)
}

// repeated reads as long as there are more.
func repeated(more func() bool, one step) step {
	return func() error {
		for more() {
			if err := one(); err != nil {
				return err
			}
		}
		return nil
	}
}

// unless reads what stands ahead of that mark, if the mark is not next.
func (r *reader) unless(mark string, one step) step {
	return func() error {
		if r.is(mark) {
			return nil
		}
		return one()
	}
}
