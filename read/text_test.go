package read_test

import (
	"fmt"
	"math/rand/v2"
	"reflect"
	"slices"
	"strings"
	"testing"

	"noria/api"
	"noria/lex"
	"noria/parse"
	"noria/print"
	"noria/prog"
	"noria/read"
	"noria/show"
)

// spread is a text of these words, with blanks ahead of each, and at the end, that ahead tells.
func spread(l []string, ahead func(i int) string) string {
	var w strings.Builder
	for i := range len(l) + 1 {
		blank := ahead(i)
		if i > 0 && l[i-1] == "-" && strings.HasPrefix(blank, "-") {
			// A sign and a remark behind it are a remark.
			w.WriteString(" ")
		}
		w.WriteString(blank)
		if i < len(l) {
			w.WriteString(l[i])
		}
	}
	return w.String()
}

// apart tells whether a blank is needed between two words.
func apart(t *testing.T, one, other string) bool {
	l, _, err := lex.All(one+other, api.MaxText)
	return err != api.OK || len(l) != 3 || l[1].At != len(one)
}

// P14.1: blanks and remarks of all kinds between any two tokens, at the beginning and at the end; and none where none is needed.
func TestBlanks(t *testing.T) {
	l := texts(t, sample)
	want := newGuide().askedText(sample).p
	for _, blank := range []string{" ", "\n", "\t", "\r", "\r\n", "    ", "\t \n\r ", "--\n", "-- a\n", "--;)\n--let tel\n", " ---\n\n", "--\x00\xff'?\n", "--node f() returns (y: e\r\n "} {
		all := spread(l, func(int) string { return blank })
		if len(all) > api.MaxText {
			t.Fatalf("%q is too long", blank)
		}
		reads(t, all, want)
		for i := range len(l) + 1 {
			reads(t, spread(l, func(k int) string { return map[bool]string{true: blank, false: " "}[i == k] }), want)
		}
	}
	tight := func(i int) string {
		if 0 < i && i < len(l) && apart(t, l[i-1], l[i]) {
			return " "
		}
		return ""
	}
	s := spread(l, tight)
	reads(t, s, want)
	reads(t, s+"--", want)
	reads(t, s+"--tel", want)
	reads(t, "--\n"+s, want)
	refused(t, "--"+s[:strings.Index(s, "\n")+1], api.ErrNone)
	for i := range l {
		if i == 0 || tight(i) == "" {
			continue
		}
		// Where a blank is needed, a text without it is another one.
		other := strings.Join(l[:i], " ") + strings.Join(l[i:], " ")
		holds(t, other, newGuide().askedText(other))
		if p, _, _ := read.Program(other); prog.Same(p, want) {
			t.Errorf("%s is read as the same", cut(other))
		}
	}
}

// P14.2: a text of just MaxText bytes is read, one of one more is not, whatever it is filled with.
func TestLongest(t *testing.T) {
	l := texts(t, sample)
	want := newGuide().askedText(sample).p
	s := strings.Join(l, " ")
	room := api.MaxText - len(s)
	for i := range len(l) + 1 {
		for _, fill := range []string{strings.Repeat(" ", room), strings.Repeat("\n", room), " --" + strings.Repeat("?", room-4) + "\n"} {
			whole := strings.Join(l[:i], " ") + fill + " " + strings.Join(l[i:], " ")
			if i == 0 || i == len(l) {
				whole = strings.Join(l[:i], " ") + fill + strings.Join(l[i:], " ")
			}
			if len(whole) != api.MaxText {
				t.Fatalf("%d bytes", len(whole))
			}
			reads(t, whole, want)
			fails(t, whole+" ", 6000, api.ErrLong)
			fails(t, " "+whole, 6000, api.ErrLong)
		}
	}
	refused(t, strings.Repeat(" ", 6000), api.ErrNone)
	refused(t, "--"+strings.Repeat("node f", 999)+"    ", api.ErrNone)
}

// asText asks that the text of p, which may be, is read as p, if it is not too long, and tells how long it is.
func asText(t *testing.T, p api.Program) int {
	t.Helper()
	s := print.Text(p)
	switch {
	case s == "":
		t.Fatalf("%+v has no text", p)
	case len(s) > api.MaxText:
		fails(t, s, api.MaxText, api.ErrLong)
	default:
		reads(t, s, p)
	}
	return len(s)
}

// full is a program with as much of everything as may be, with right expressions of all kinds that have so many bytes.
func full(least, most int) api.Program {
	p := api.Program{Enums: enums()}
	var right []api.Expr
	for _, s := range expressions() {
		if e, _, _ := parse.Expr(s); least <= len(s) && len(s) <= most {
			right = append(right, e)
		}
	}
	for i, s := range names("n", 6) {
		n := api.Node{Name: s, Ins: decls("a", 6), Outs: decls("y", 6)}
		on := "a0"
		for k, name := range names("v", 12) {
			n.Vars = append(n.Vars, when(name, on, []string{"true", "false", "Up", "True"}[k%4]))
			on = name
		}
		n.Vars[3].On, n.Vars[3].Ctor = "", ""
		for k, name := range names("y", 18) {
			n.Eqs = append(n.Eqs, eq(right[(i+k)%len(right)], name))
		}
		n.Eqs[17] = eq(call("f", num(1)), names("y", 18)...)
		for k := range n.Ins {
			n.Ins[k].Ty = []api.Ty{of(api.KInt, 0, k), of(api.KBool, 0, k+3), of(api.KEnum, i%4, k), of(api.KEnum, 3, 8)}[(i+k)%4]
		}
		p.Nodes = append(p.Nodes, n)
	}
	return p
}

// old is an ExOld of a path that has so many bytes.
func old(n int) api.Expr {
	return api.Expr{Kind: api.ExOld, Name: strings.Repeat("a", 2-n%2) + strings.Repeat("/a", (n-1)/2)}
}

// P14.3: the text of a program that may be is read as it: small ones, great ones, and one that has just MaxText bytes.
func TestTexts(t *testing.T) {
	asText(t, api.Program{Nodes: []api.Node{{Name: "f", Outs: decls("y", 1)}}})
	asText(t, newGuide().askedText(sample).p)
	if n := asText(t, full(1, 9)); n < 4000 || n > api.MaxText {
		t.Errorf("the full one has %d bytes", n)
	}
	if n := asText(t, full(12, 1000)); n <= api.MaxText {
		t.Errorf("the great one has %d bytes", n)
	}
	for _, s := range expressions() {
		e, _, _ := parse.Expr(s)
		asText(t, api.Program{Nodes: []api.Node{{Name: "f", Outs: decls("y", 1), Eqs: []api.Eq{eq(e, "y")}}}})
	}
	// A path has no bound of its own, so it fills a text up to each length.
	p := full(1, 9)
	room := api.MaxText - len(print.Text(p))
	last := &p.Nodes[5].Eqs[16].E
	room += len(show.Expr(*last)) - len("''")
	for more := -3; more <= 3; more++ {
		*last = old(room + more)
		if n := asText(t, p); n != api.MaxText+more {
			t.Errorf("%d bytes, not %d", n, api.MaxText+more)
		}
	}
}

// P14.3: two enums of one name have no text; written by hand, they are read, and refused by prog.Check alone.
func TestEnumsOfOneName(t *testing.T) {
	for _, s := range []string{"enum e { A }; enum e { B }; ", "enum e { A }; enum e { A }; ", "enum e { A }; enum d { D }; enum e { B }; ", "enum e { B }; enum e { C }; enum e { D }; "} {
		p := api.Program{Nodes: []api.Node{{Name: "f", Ins: []api.Decl{{Name: "a", Ty: of(api.KEnum, 0, 2)}}, Outs: decls("y", 1)}}}
		whole := s + "node f(a: e[2]) returns (y0: int) let tel"
		p.Enums = laid(tokens(t, s)).Enums
		if prog.Check(p) != api.ErrThere || print.Text(p) != "" {
			t.Errorf("%s is not refused", s)
		}
		refused(t, whole, api.ErrThere)
		wrong(t, strings.Replace(whole, "tel", "y = ^a fby 1; tel", 1), api.ErrArg)
		wrong(t, strings.Replace(whole, "int", "^d_", 1), api.ErrText)
	}
}

// dice makes programs of parts that chance tells, and texts of them.
type dice struct {
	*rand.Rand
	t   *testing.T
	odd int // what there is more of in a program than may be, if not 0
	l   []string
}

const (
	doubles = 1 // of names
	greats  = 2 // of what has a limit
	clocks  = 3 // of inputs and outputs, and of equations with several names
	smalls  = 4 // of programs without nodes
)

// rare tells whether something is such as may not be: of n, one.
func (r *dice) rare(odd, n int) bool {
	return r.odd == odd && r.IntN(n) == 0
}

// say writes words.
func (r *dice) say(l ...string) {
	r.l = append(r.l, l...)
}

// fresh is a name that no other one is like, but for rare ones.
func (r *dice) fresh(first string) string {
	if r.rare(doubles, 12) {
		return first
	}
	return first + fmt.Sprint(len(r.l))
}

func (r *dice) enum() api.Enum {
	e := api.Enum{Name: r.fresh("e")}
	r.say("enum", e.Name, "{")
	for i := range 1 + r.IntN(6) + 6*bit(r.rare(greats, 9)) {
		if i > 0 {
			r.say(",")
		}
		e.Ctors = append(e.Ctors, r.fresh("E"))
		r.say(e.Ctors[i])
	}
	r.say("}", ";")
	return e
}

// bit is 1 of what holds.
func bit(b bool) int {
	if b {
		return 1
	}
	return 0
}

func (r *dice) decl(enums []api.Enum, on bool) api.Decl {
	d := api.Decl{Name: r.fresh("v"), Ty: of(1+r.IntN(2+bit(len(enums) > 0)), 0, r.IntN(9))}
	r.say(d.Name, ":")
	if d.Ty.Kind == api.KEnum {
		i := r.IntN(len(enums))
		r.say(enums[i].Name)
		d.Ty.Enum = slices.IndexFunc(enums, func(e api.Enum) bool { return e.Name == enums[i].Name })
	} else {
		r.say([]string{"int", "bool"}[d.Ty.Kind-1])
	}
	if d.Ty.Len > 0 {
		r.say("[", fmt.Sprint(d.Ty.Len), "]")
	}
	if on && r.IntN(2) == 0 || r.rare(clocks, 30) {
		d.On, d.Ctor = []string{"c", "d"}[r.IntN(2)], []string{"true", "false", "Up"}[r.IntN(3)]
		switch {
		case d.Ctor == "true" && r.IntN(2) == 0:
			r.say("when", d.On)
		case d.Ctor == "false" && r.IntN(2) == 0:
			r.say("when", "not", d.On)
		default:
			r.say("when", d.Ctor, "(", d.On, ")")
		}
	}
	return d
}

func (r *dice) decls(enums []api.Enum, n int, on bool) []api.Decl {
	var l []api.Decl
	for i := range n {
		if i > 0 {
			r.say(";")
		}
		l = append(l, r.decl(enums, on))
	}
	return l
}

func (r *dice) eq() api.Eq {
	var q api.Eq
	l := expressions()
	text := l[r.IntN(len(l)-4)]
	e, _, _ := parse.Expr(text)
	for i := range 1 + r.IntN(4)*max(bit(e.Kind == api.ExCall), bit(r.rare(clocks, 30))) {
		if i > 0 {
			r.say(",")
		}
		q.Names = append(q.Names, r.fresh("y"))
		r.say(q.Names[i])
	}
	r.say("=")
	r.say(texts(r.t, text)...)
	r.say(";")
	q.E = e
	return q
}

func (r *dice) node(enums []api.Enum) api.Node {
	n := api.Node{Name: r.fresh("f")}
	r.say("node", n.Name, "(")
	n.Ins = r.decls(enums, r.IntN(7)+bit(r.rare(greats, 9)), false)
	r.say(")", "returns", "(")
	n.Outs = r.decls(enums, 1+r.IntN(6)+bit(r.rare(greats, 9)), false)
	r.say(")")
	if some := r.IntN(13); some > 0 {
		r.say("var")
		n.Vars = r.decls(enums, some+bit(r.rare(greats, 9)), true)
		r.say(";")
	}
	r.say("let")
	for range r.IntN(19) + bit(r.rare(greats, 9)) {
		n.Eqs = append(n.Eqs, r.eq())
	}
	r.say("tel")
	return n
}

// program makes a program, and its words.
func (r *dice) program() (api.Program, []string) {
	var p api.Program
	r.l, r.odd = nil, max(0, r.IntN(8)-3)
	for range r.IntN(5) + bit(r.rare(greats, 9)) {
		p.Enums = append(p.Enums, r.enum())
	}
	for range (1 + r.IntN(3) + 4*bit(r.rare(greats, 9))) * bit(!r.rare(smalls, 3)) {
		p.Nodes = append(p.Nodes, r.node(p.Enums))
	}
	return p, r.l
}

// blank is what stands between two words: none, where none is needed, or some.
func (r *dice) blank(one, other string) string {
	if r.IntN(2) == 0 && (one == "" || other == "" || !apart(r.t, one, other)) {
		return ""
	}
	return []string{" ", "\n", "\t", "\r", "  ", "--\n", "--a;\n"}[max(0, r.IntN(20)-13)]
}

// text lays words with blanks between.
func (r *dice) text(l []string) string {
	return spread(l, func(i int) string {
		one, other := "", ""
		if i > 0 {
			one = l[i-1]
		}
		if i < len(l) {
			other = l[i]
		}
		return r.blank(one, other)
	})
}

// P14.1 to P14.3: what chance makes is read as it is made, with blanks of all sorts, and as its text; what may not be is refused.
func TestByChance(t *testing.T) {
	r := &dice{Rand: rand.New(rand.NewPCG(14, 1)), t: t}
	w := newGuide()
	told := map[api.Errno]int{}
	for range 600 {
		p, l := r.program()
		s := r.text(l)
		err := prog.Check(p)
		switch {
		case len(s) > api.MaxText:
			fails(t, s, api.MaxText, api.ErrLong)
			continue
		case err != api.OK:
			refused(t, s, err)
		default:
			reads(t, s, p)
			asText(t, p)
		}
		holds(t, s, w.askedText(s))
		told[err]++
	}
	if told[api.OK] < 200 || told[api.ErrArg] < 20 || told[api.ErrMany] < 20 || told[api.ErrThere] < 20 || told[api.ErrNone] < 10 {
		t.Errorf("told: %v", told)
	}
}

// P14.2: what chance spoils, by tokens and by bytes, is told as the document asks.
func TestSpoilt(t *testing.T) {
	r := &dice{Rand: rand.New(rand.NewPCG(14, 2)), t: t}
	w := newGuide()
	others := append(alphabet(), deep(13), wide(61), "a fby b", "$", "01")
	told := map[api.Errno]int{}
	for n := range 3000 {
		_, l := r.program()
		l = l[max(0, len(l)-300):]
		for range 1 + r.IntN(3) {
			at := r.IntN(len(l) + 1)
			if r.IntN(2) == 0 && at < len(l) {
				l = slices.Delete(l, at, at+1)
			}
			if r.IntN(2) == 0 {
				l = slices.Insert(l, at, others[r.IntN(len(others))])
			}
		}
		b := []byte(strings.Join(l, " "))
		for i := 0; n%3 == 0 && i < 3 && len(b) > 0; i++ {
			b[r.IntN(len(b))] = byte(r.IntN(256))
		}
		want := w.askedText(string(b))
		holds(t, string(b), want)
		told[want.err]++
	}
	if told[api.ErrText] < 1000 || len(told) < 4 {
		t.Errorf("told: %v", told)
	}
}

// P14.1, P14.2: rows of tokens that go on as the grammar says, from the beginning on, each of them with each other token behind.
func TestGrown(t *testing.T) {
	r := rand.New(rand.NewPCG(14, 3))
	w := newGuide()
	all := alphabet()
	longest, told := 0, map[api.Errno]int{}
	for range 100 {
		s := ""
		o := w.start()
		for size := range 60 {
			var next open
			chosen := ""
			for _, i := range r.Perm(len(all)) {
				longer := s + " " + all[i]
				l := tokens(t, longer)
				behind := w.behind(o, signs(l, size))
				if len(behind) == 0 {
					if r.IntN(8) == 0 {
						holds(t, longer, w.asked(o, l, size))
					}
				} else if next == nil {
					next, chosen = behind, longer
				}
			}
			l := tokens(t, s)
			want := w.asked(o, l, size)
			holds(t, s, want)
			told[want.err]++
			s, o = chosen, next
			longest = max(longest, size)
		}
	}
	if longest != 59 || told[api.ErrNone] < 100 || told[api.ErrText] < 3000 {
		t.Errorf("%d tokens, told: %v", longest, told)
	}
}

// P14.2: no two lists of what is told share anything, nor do those of two calls.
func TestLists(t *testing.T) {
	type piece struct{ from, to uintptr }
	var all []piece
	add := func(l reflect.Value) {
		if l.Cap() > 0 {
			from := l.Pointer()
			all = append(all, piece{from, from + uintptr(l.Cap())*l.Type().Elem().Size()})
		}
	}
	full, _, _ := read.Program(print.Text(full(1, 9)))
	one, _, _ := read.Program(sample)
	other, _, _ := read.Program(sample)
	for _, p := range []api.Program{full, one, other} {
		lists(reflect.ValueOf(p), add)
	}
	slices.SortFunc(all, func(a, b piece) int {
		if a.from < b.from {
			return -1
		}
		return 1
	})
	if len(all) < 200 {
		t.Fatalf("%d lists", len(all))
	}
	for i := 1; i < len(all); i++ {
		if all[i-1].to > all[i].from {
			t.Fatal("two lists share something")
		}
	}
}
