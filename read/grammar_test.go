package read_test

import (
	"maps"
	"slices"
	"strconv"
	"strings"

	"noria/api"
	"noria/lex"
	"noria/parse"
	"noria/prog"
)

// grammar has the lines of the chapters (P14.1, P11.1). An "enum" without quotes that stands in type is the name of one that stands ahead, a length a number that may be.
const grammar = `
program: { enum } { node } End
enum:    "enum" name "{" Name { "," Name } "}" ";"
node:    "node" name "(" [ decls ] ")" "returns" "(" decls ")" [ "var" decls ";" ] "let" { eq } "tel"
decls:   decl { ";" decl }
decl:    name ":" type [ "when" when ]
type:    ( "int" | "bool" | known ) [ "[" length "]" ]
eq:      name { "," name } "=" arrow ";"
arrow:   fby [ "->" arrow ]
fby:     or [ "fby" fby ]
or:      and { ( "or" | "xor" ) and }
and:     cmp { "and" cmp }
cmp:     sum [ ( "=" | "<>" | "<" | "<=" | ">" | ">=" ) sum ]
sum:     prod { ( "+" | "-" ) prod }
prod:    un { ( "*" | "/" | "mod" ) un }
un:      ( "-" | "not" | "pre" ) un | post
post:    atom { "[" arrow "]" | "when" when }
when:    "not" name | name | ( Name | "true" | "false" ) "(" name ")"
atom:    number | "true" | "false" | Name | path | name
atom:    name "(" [ arrow { "," arrow } ] ")" [ "every" post ]
atom:    "[" arrow { "," arrow } "]" | "if" arrow "then" arrow "else" arrow
atom:    "merge" name arm { arm }
atom:    "(" arrow [ "with" "[" arrow "]" "=" arrow ] ")"
arm:     "(" ( Name | "true" | "false" ) "->" arrow ")"
`

// ways are those in which a line, or a piece of one, goes on: each is signs, names of lines, and pieces of their own.
type ways [][]string

// lines are the grammar's, and its pieces, by their names. A piece { x } has the ways nothing and x { x }; one [ x ] the ways nothing and x.
func lines() map[string]ways {
	g := map[string]ways{}
	for _, line := range strings.Split(strings.TrimSpace(grammar), "\n") {
		name, rest, _ := strings.Cut(line, ":")
		w, _ := piece(g, strings.Fields(rest), "")
		g[name] = append(g[name], w...)
	}
	return g
}

// piece reads a piece of a line up to what shuts it, and tells what is left behind.
func piece(g map[string]ways, l []string, shut string) (ways, []string) {
	w := ways{nil}
	for len(l) > 0 && l[0] != shut {
		word := l[0]
		l = l[1:]
		if word == "|" {
			w = append(w, nil)
			continue
		}
		if pairs := map[string]string{"{": "}", "[": "]", "(": ")"}; pairs[word] != "" {
			name := "piece " + strconv.Itoa(len(g))
			g[name] = nil
			var inner ways
			inner, l = piece(g, l, pairs[word])
			l = l[1:]
			g[name] = inner
			if word == "{" {
				for i := range inner {
					inner[i] = append(inner[i], name)
				}
			}
			if word != "(" {
				g[name] = append(inner, nil)
			}
			word = name
		}
		w[len(w)-1] = append(w[len(w)-1], word)
	}
	return w, l
}

// open is all the ways in which what is read so far may go on: each is what has to follow still, with a sign ahead, if there is something.
type open map[string]struct{}

// guide tells of tokens what the document asks of them.
type guide struct {
	g map[string]ways
	// What may follow a way when a sign is read is the same each time: it is kept.
	known map[string]open
}

func newGuide() *guide {
	return &guide{g: lines(), known: map[string]open{}}
}

// start is what may follow at the beginning of a text.
func (w *guide) start() open {
	o := open{}
	w.add(o, []string{"program"})
	return o
}

func (w *guide) add(o open, l []string) {
	if len(l) == 0 || w.g[l[0]] == nil {
		o[strings.Join(l, "\n")] = struct{}{}
		return
	}
	for _, way := range w.g[l[0]] {
		w.add(o, slices.Concat(way, l[1:]))
	}
}

// behind is what may follow when a token is read that is one of these signs: nothing, if no way goes on with it.
func (w *guide) behind(o open, signs []string) open {
	next := open{}
	for way := range o {
		first, rest, _ := strings.Cut(way, "\n")
		if !slices.Contains(signs, first) {
			continue
		}
		if w.known[rest] == nil {
			follows := open{}
			w.add(follows, strings.FieldsFunc(rest, func(r rune) bool { return r == '\n' }))
			w.known[rest] = follows
		}
		maps.Copy(next, w.known[rest])
	}
	return next
}

const words = " node returns var let tel enum if then else fby pre when merge every not and or xor mod true false int bool with "

// isName tells whether a token is a name.
func isName(t lex.Token) bool {
	return t.Kind == lex.Low && !strings.Contains(words, " "+t.S+" ")
}

// signs are those of the grammar that the token l[at] is: which enums are known there hangs on the tokens ahead.
func signs(l []lex.Token, at int) []string {
	switch t := l[at]; {
	case t.Kind == lex.Num && 1 <= t.N && t.N <= 8:
		return []string{"number", "length"}
	case t.Kind == lex.Num:
		return []string{"number"}
	case t.Kind == lex.High:
		return []string{"Name"}
	case t.Kind == lex.Path:
		return []string{"path"}
	case t.Kind == lex.End:
		return []string{"End"}
	case !isName(t):
		return []string{strconv.Quote(t.S)}
	}
	for i := 1; i < at; i++ {
		if l[i-1].S == "enum" && l[i].S == l[at].S {
			return []string{"name", "known"}
		}
	}
	return []string{"name"}
}

// follow goes on with tokens from l[at] on, and tells the place of the first one with which nothing goes on: len(l), if all of them do.
func (w *guide) follow(o open, l []lex.Token, at int) int {
	for ; at < len(l); at++ {
		o = w.behind(o, signs(l, at))
		if len(o) == 0 {
			break
		}
	}
	return at
}

// answer is what Program tells.
type answer struct {
	p   api.Program
	at  int
	err api.Errno
}

// asked is what the document asks to be told of tokens, behind a beginning of at tokens of which it is known that o may follow.
func (w *guide) asked(o open, l []lex.Token, at int) answer {
	stop := w.follow(o, l, at)
	for _, k := range beginnings(l[:stop]) {
		if _, _, err := parse.Part(l, k); err == api.ErrArg || err == api.ErrLong {
			return answer{at: l[k].At, err: err}
		}
	}
	if stop < len(l) {
		return answer{at: l[stop].At, err: api.ErrText}
	}
	size := l[len(l)-1].At
	p := laid(l)
	if err := prog.Check(p); err != api.OK {
		return answer{at: size, err: err}
	}
	return answer{p: p, at: size, err: api.OK}
}

// askedText is what the document asks to be told of a text.
func (w *guide) askedText(s string) answer {
	l, at, err := lex.All(s, api.MaxText)
	if err != api.OK {
		return answer{at: at, err: err}
	}
	return w.asked(w.start(), l, 0)
}

// beginnings are the places in l, which goes on as a program, at which equations' expressions begin.
func beginnings(l []lex.Token) []int {
	var places []int
	within, left := false, false
	for i, t := range l {
		switch {
		case t.S == "let":
			within, left = true, true
		case t.S == "tel":
			within = false
		case t.S == ";":
			left = within
		case t.S == "=" && left:
			places = append(places, i+1)
			left = false
		}
	}
	return places
}

// laid is the program of tokens that are one: what they are is known, so it is taken as it comes.
func laid(l []lex.Token) api.Program {
	var p api.Program
	take := func() string {
		s := l[0].S
		l = l[1:]
		return s
	}
	for take := take; l[0].S == "enum"; {
		take()
		e := api.Enum{Name: take()}
		for mark := take(); mark != "}"; mark = take() {
			e.Ctors = append(e.Ctors, take())
		}
		take()
		p.Enums = append(p.Enums, e)
	}
	for len(l) > 1 {
		n := api.Node{Name: l[1].S}
		l = l[3:]
		n.Ins, l = laidDecls(p.Enums, l, ")")
		l = l[3:]
		n.Outs, l = laidDecls(p.Enums, l, ")")
		if l[1].S == "var" {
			n.Vars, l = laidDecls(p.Enums, l[2:], "let")
			l = l[1:]
		} else {
			l = l[2:]
		}
		for l[0].S != "tel" {
			q := api.Eq{Names: []string{take()}}
			for take() == "," {
				q.Names = append(q.Names, take())
			}
			e, behind, _ := parse.Part(l, 0)
			q.E = e
			l = l[behind+1:]
			n.Eqs = append(n.Eqs, q)
		}
		take()
		p.Nodes = append(p.Nodes, n)
	}
	return p
}

// laidDecls are the variables that l has ahead of what shuts them; which brackets are a clock's is told by what is in front of them.
func laidDecls(enums []api.Enum, l []lex.Token, shut string) ([]api.Decl, []lex.Token) {
	var decls []api.Decl
	for l[0].S != shut {
		d := api.Decl{Name: l[0].S}
		switch kind := l[2].S; kind {
		case "int":
			d.Ty.Kind = api.KInt
		case "bool":
			d.Ty.Kind = api.KBool
		default:
			d.Ty = of(api.KEnum, slices.IndexFunc(enums, func(e api.Enum) bool { return e.Name == kind }), 0)
		}
		l = l[3:]
		if l[0].S == "[" {
			d.Ty.Len = int(l[1].N)
			l = l[3:]
		}
		if l[0].S == "when" {
			switch {
			case l[1].S == "not":
				d.On, d.Ctor = l[2].S, "false"
				l = l[3:]
			case l[2].S == "(":
				d.On, d.Ctor = l[3].S, l[1].S
				l = l[5:]
			default:
				d.On, d.Ctor = l[1].S, "true"
				l = l[2:]
			}
		}
		decls = append(decls, d)
		if l[0].S == ";" {
			l = l[1:]
		}
	}
	return decls, l
}
