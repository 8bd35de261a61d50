package print_test

import (
	"fmt"
	"strings"
	"testing"

	"noria/api"
	"noria/print"
	"noria/show"
	"noria/ty"
)

// decl holds what Decl tells of d, where the enums are l, against want.
func decl(t *testing.T, l []api.Enum, d api.Decl, want string) {
	t.Helper()
	if s := print.Decl(l, d); s != want {
		t.Fatalf("Decl of %s is %q, not %q", cut(d), s, want)
	}
}

// P13.1: variables of each kind of type, and of each enum, of every length.
func TestDeclTypes(t *testing.T) {
	one := api.Decl{Name: "a"}
	for kind, want := range []string{"int", "bool"} {
		one.Ty = of(1+kind, 0, 0)
		decl(t, nil, one, "a: "+want)
	}
	for length := range 9 {
		behind := ""
		if length > 0 {
			behind = fmt.Sprintf("[%d]", length)
		}
		one.Ty = of(api.KInt, 0, length)
		decl(t, enums(), one, "a: int"+behind)
		one.Ty = of(api.KBool, 0, length)
		decl(t, nil, one, "a: bool"+behind)
		for place, name := range []string{"way", "hue", "abcdefghijkl", "x9_"} {
			one.Ty = of(api.KEnum, place, length)
			decl(t, enums(), one, "a: "+name+behind)
			decl(t, enums()[:place+1], one, "a: "+name+behind)
			decl(t, enums()[:place], one, "a: ")
		}
	}
}

// P13.1: variables with a clock by a constructor, by true and by false, and without.
func TestDeclClocks(t *testing.T) {
	decl(t, nil, always("h"), "h: int")
	decl(t, nil, when("h", "c", "true"), "h: int when c")
	decl(t, nil, when("h", "c", "false"), "h: int when not c")
	decl(t, nil, when("h", "c", "Up"), "h: int when Up(c)")
	decl(t, nil, when("h", "c", "True"), "h: int when True(c)")
	decl(t, nil, when("h", "not_c", "false"), "h: int when not not_c")
	decl(t, nil, when("h", "h", "H"), "h: int when H(h)")
	long := strings.Repeat("A", 12)
	d := when("abcdefghijkl", "mnopqrstuvwx", long)
	d.Ty = of(api.KEnum, 2, 8)
	decl(t, enums(), d, "abcdefghijkl: abcdefghijkl[8] when AAAAAAAAAAAA(mnopqrstuvwx)")
	d.Ty = of(api.KBool, 0, 1)
	d.Ctor = "false"
	decl(t, nil, d, "abcdefghijkl: bool[1] when not mnopqrstuvwx")
}

// P13.1: a name is told as it is, of one byte, of as many as may be, and if it is none.
func TestDeclNames(t *testing.T) {
	for _, name := range append(noLow(), "a", "z", "abcdefghijkl", "a9_Z", "way", "when_", "A", "A: int", "\n", "a; b") {
		decl(t, nil, always(name), name+": int")
		decl(t, nil, when(name, "c", "true"), name+": int when c")
	}
}

// P13.1: of a type that is not right there is no text, wherever it stands.
func TestDeclOfWrongType(t *testing.T) {
	for _, u := range wrongTypes() {
		d := always("a")
		d.Ty = u
		decl(t, enums(), d, "a: ")
		d.On, d.Ctor = "c", "true"
		decl(t, enums(), d, "a:  when c")
		d.Ctor = "Up"
		decl(t, enums(), d, "a:  when Up(c)")
	}
}

// P13.1: enums that may not be are told as the types' texts tell them.
func TestDeclOfWrongEnums(t *testing.T) {
	d := always("a")
	for i, name := range append(noLow(), "way", "way") {
		l := append(make([]api.Enum, i), enum(name))
		d.Ty = of(api.KEnum, i, 2)
		decl(t, l, d, "a: "+name+"[2]")
	}
}

// P13.1: an On is told with whatever Ctor it has; where there is no On, there is nothing to tell of a Ctor.
func TestDeclOfWrongClock(t *testing.T) {
	for _, arm := range noArm() {
		decl(t, nil, when("h", "c", arm), "h: int when "+arm+"(c)")
		decl(t, nil, when("h", "", arm), "h: int")
	}
	for _, arm := range []string{"true", "false", "Up"} {
		decl(t, nil, when("h", "", arm), "h: int")
	}
	for _, name := range noLow() {
		if name == "" {
			continue
		}
		decl(t, nil, when("h", name, "true"), "h: int when "+name)
		decl(t, nil, when("h", name, "false"), "h: int when not "+name)
		decl(t, nil, when("h", name, "Up"), "h: int when Up("+name+")")
	}
}

// P13.1: whatever is in a variable, its text has its name, its type's text, and that of its On, if it has one.
func TestDeclByChance(t *testing.T) {
	r := rolled(40)
	r.odd = true
	for range 20000 {
		d := r.decl(true)
		want := d.Name + ": " + ty.Text(enums(), d.Ty)
		if d.On != "" {
			want += " when " + show.On(d.On, d.Ctor)
		}
		decl(t, enums(), d, want)
	}
}

// P13.1: a variable of nothing has what stands between its pieces alone.
func TestDeclOfNothing(t *testing.T) {
	decl(t, nil, api.Decl{}, ": ")
	decl(t, []api.Enum{}, api.Decl{Ctor: "true"}, ": ")
	decl(t, []api.Enum{}, api.Decl{On: "c"}, ":  when (c)")
}
