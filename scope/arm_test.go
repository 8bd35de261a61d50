package scope_test

import (
	"fmt"
	"strconv"
	"strings"
	"testing"

	"noria/api"
	"noria/scope"
	"noria/ty"
)

// enum makes an enum.
func enum(name string, ctors ...string) api.Enum {
	return api.Enum{Name: name, Ctors: ctors}
}

// enums is a list of as many enums as may be, with as many constructors as may be.
func enums() []api.Enum {
	return []api.Enum{
		enum("way", "Up", "Down", "Left", "Right", "In", "Out"),
		enum("hue", "Red", "Green", "Blue", "White", "Black", "Grey"),
		enum("abcdefghijkl", "ABCDEFGHIJKL", "M_0123456789", "N", "O9", "P_", "Qq"),
		enum("x9_", "X", "Y", "Z", "X1", "Y1", "Z1"),
	}
}

// noArms are texts that no arm of enums is.
func noArms() []string {
	return []string{
		"", " ", "_", "up", "U", "Upp", "UP", "Up ", " Up", "Up\x00", "Up,Down", "Up(c)", "way", "hue", "x9_", "A", "Z2", "ABCDEFGHIJK", "ABCDEFGHIJKLM",
		"True", "False", "TRUE", "tru", "truee", "true ", " true", "true\x00", "fals", "falsee", "False ", "not", "0", "1", "int", "bool", "\u00c4", "\xff", strings.Repeat("A", 1000),
	}
}

// arm holds what Arm tells of l and s against want, and that it leaves l as it is.
func arm(t *testing.T, l []api.Enum, s string, want api.Ty, value int64, there bool) {
	t.Helper()
	as := fmt.Sprintf("%q", l)
	for range 2 {
		if u, n, ok := scope.Arm(l, s); u != want || n != value || ok != there {
			t.Fatalf("Arm of %.300q and %.100q is %+v, %d, %v, not %+v, %d, %v", l, s, u, n, ok, want, value, there)
		}
	}
	if fmt.Sprintf("%q", l) != as {
		t.Fatalf("Arm of %.100q has changed %.300s", s, as)
	}
}

// noArm holds that s is no arm of l.
func noArm(t *testing.T, l []api.Enum, s string) {
	t.Helper()
	arm(t, l, s, api.Ty{}, 0, false)
}

// ctor holds that s is an arm of l: that constructor of that enum.
func ctor(t *testing.T, l []api.Enum, s string, enum int, value int64) {
	t.Helper()
	arm(t, l, s, api.Ty{Kind: api.KEnum, Enum: enum}, value, true)
}

// truths holds what Arm tells of true and false, where the enums are l.
func truths(t *testing.T, l []api.Enum) {
	t.Helper()
	arm(t, l, "true", api.Ty{Kind: api.KBool}, 1, true)
	arm(t, l, "false", api.Ty{Kind: api.KBool}, 0, true)
}

// The kinds and errors are those that the chapters name.
func TestGiven(t *testing.T) {
	if api.KBool != 2 || api.KEnum != 3 {
		t.Fatal("kinds")
	}
	if api.OK != 0 || api.ErrNone != 5 || api.ErrThere != 6 {
		t.Fatal("errors")
	}
	if (api.Fault{}) != fault(0, 0, 0) {
		t.Fatal("the zero fault")
	}
}

// P15.1: true and false are truths, whatever the enums are, also if these have such constructors.
func TestArmTruths(t *testing.T) {
	truths(t, nil)
	truths(t, []api.Enum{})
	truths(t, make([]api.Enum, 3))
	for n := range 5 {
		truths(t, enums()[:n])
		for c := range 7 {
			l := enums()[4-n:]
			for i := range l {
				l[i].Ctors = l[i].Ctors[:c]
			}
			truths(t, l)
		}
	}
	truths(t, []api.Enum{enum("way", "Up", "true"), enum("hue", "false", "true")})
	truths(t, []api.Enum{enum("true", "true"), enum("false", "false")})
	truths(t, []api.Enum{enum("bool", "True", "False")})
}

// P15.1: each constructor, of the first enum, of the last one, and of those between, stands for its number, of its enum.
func TestArmCtors(t *testing.T) {
	for n := range 5 {
		for i, e := range enums() {
			for k, s := range e.Ctors {
				if i < n {
					ctor(t, enums()[:n], s, i, int64(k))
				} else {
					noArm(t, enums()[:n], s)
				}
				if i >= 4-n {
					ctor(t, enums()[4-n:], s, i-(4-n), int64(k))
				} else {
					noArm(t, enums()[4-n:], s)
				}
			}
		}
	}
	ctor(t, []api.Enum{enum("a", "True", "False")}, "False", 0, 1)
	ctor(t, []api.Enum{{}, enum("a"), enum("b", "B")}, "B", 2, 0)
}

// P15.1: of two constructors of one name the first is told, in one enum or in two, at whichever places.
func TestArmTwice(t *testing.T) {
	ctor(t, []api.Enum{enum("a", "A", "B"), enum("b", "B", "A")}, "A", 0, 0)
	ctor(t, []api.Enum{enum("a", "A", "B"), enum("b", "B", "A")}, "B", 0, 1)
	for i := range 24 {
		for j := i; j < 24; j++ {
			l := enums()
			l[i/6].Ctors[i%6], l[j/6].Ctors[j%6] = "Twice", "Twice"
			ctor(t, l, "Twice", i/6, int64(i%6))
		}
	}
}

// P15.1: what is no truth and no constructor is no arm.
func TestArmNone(t *testing.T) {
	for _, s := range noArms() {
		noArm(t, nil, s)
		noArm(t, []api.Enum{}, s)
		noArm(t, make([]api.Enum, 2), s)
		noArm(t, []api.Enum{enum("a")}, s)
		for n := range 5 {
			noArm(t, enums()[:n], s)
		}
	}
	for _, e := range enums() {
		for _, s := range e.Ctors {
			noArm(t, nil, s)
			noArm(t, enums(), s+"_")
			noArm(t, enums(), strings.ToLower(s))
			noArm(t, enums(), s[1:])
		}
		noArm(t, enums(), e.Name)
	}
}

// P15.1: lists that may not be are asked as well: of their constructors ty.Ctor tells.
func TestArmOfWhatMayNotBe(t *testing.T) {
	odd := []api.Enum{enum("", "", "a"), enum("A", "b", "0", ""), enum("way", "Up", "\x00"), enum("way", "not a name")}
	for _, e := range odd {
		for _, s := range append(noArms(), e.Ctors...) {
			i, k, there := ty.Ctor(odd, s)
			want := api.Ty{Kind: api.KEnum, Enum: i}
			if !there {
				want = api.Ty{}
			}
			arm(t, odd, s, want, int64(k), there)
		}
	}
	many := []api.Enum{}
	for i := range 3000 {
		many = append(many, enum("e", names("C"+strconv.Itoa(i)+"_", i/100)...))
	}
	ctor(t, many, "C2999_28", 2999, 28)
	ctor(t, many, "C100_0", 100, 0)
	noArm(t, many, "C99_0")
	wide := []api.Enum{enum("a"), enum("b", names("C", 70000)...)}
	ctor(t, wide, "C69999", 1, 69999)
	noArm(t, wide, "C70000")
}
