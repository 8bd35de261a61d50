package types_test

import (
	"slices"
	"strings"
	"testing"

	"noria/api"
	"noria/expr"
)

// row is a row of the chapter's table: what has a type, each behind it, and what has none, as one of the things that are asked is not kept.
type row struct {
	kind string
	well string
	none string
}

// table is the chapter's table, of expressions of bench's main.
func table() []row {
	return []row{
		{"ExNum, ExBool, ExCtor", `
int 0 | int 9223372036854775807 | bool true | bool false | way Up | way Left | hue Red | hue Grey | one Only | last Zero | last Last`, `
Nope | True`},
		{"ExVar", `
int i | bool b | way w | last z | int[1] i1 | int[8] i8 | bool[1] b1 | bool[8] b8 | way[1] w1 | way[8] w8 | last[1] z1 | last[8] z8
int j | bool c | way v | last x | hue h | one o | hue[1] h1 | hue[8] h8 | int[2] i2 | bool[2] b2 | way[3] w3 | one[1] o1`, `
nope | a | y | main | way | only`},
		{"ExUn", `
int -i | int -1 | int - - i | int -9223372036854775807 | bool not b | bool not true | bool not not c | int -(i + j) | bool not (i = j)`, `
-b | -w | -i1 | -i8 | -true | -Up | -nope | not i | not w | not b1 | not b8 | not 1 | not Up | not Nope`},
		{"ExBin, of two numbers", `
int i + j | int i - 1 | int 1 * i | int i / j | int i mod j | bool i = j | bool i <> 1 | bool i < j | bool i <= 1 | bool 1 > i | bool i >= j | int i + j * 2 - 3 mod i`, `
i + b | b + i | b + c | i - b | b - c | i * w | w * v | i / true | b / c | i mod Up | b mod c | w + v | i1 + i1 | i1 - i | i8 * i8 | i + i1
i = b | b = i | i <> w | w <> i | i < b | b < c | w < v | i <= c | b <= c | z <= x | i > Last | b > c | h > h | i >= b | b >= c | o >= o | i1 < i1 | i8 >= i8 | i < i1 | i + nope | nope + i | i = nope | nope = nope`},
		{"ExBin, of two truths, or of two of one enum", `
bool b and c | bool b or true | bool false xor c | bool b = c | bool b <> c | bool w = v | bool w <> Up | bool z = x | bool Last <> z | bool h = Red | bool o = Only | bool b and i < j or c`, `
b and i | i and b | i and j | b or 1 | i or j | w or v | b xor w | i xor j | b1 and b1 | b8 or b8 | b xor b1 | w = z | w <> Red | h = o | w1 = w1 | w8 <> w8 | w = w1 | b1 = b1 | b8 <> b8 | i1 = i1 | i8 <> i8 | o1 = o1 | b and nope | b = Nope`},
		{"ExIf", `
int if b then i else j | bool if b then c else true | way if not b then w else Up | int[8] if b and c then i8 else i8 | last if i < j then Last else z | one[1] if true then o1 else [Only] | int if neg(1) then none() else 2 | int if b8[0] then 1 else 2`, `
if i then i else j | if 1 then i else j | if w then i else j | if b1 then i else j | if b8 then i else j | if Up then 1 else 2 | if nope then i else j | if Nope then 1 else 2
if b then i else c | if b then c else i | if b then w else z | if b then i else i1 | if b then i1 else i | if b then i8 else i2 | if b then i1 else b1 | if b then nope else i | if b then i else nope | if b then nope else nope | if i then i else c`},
		{"ExFby", `
int 0 fby i | int -1 fby 1 | bool true fby b | way Up fby w | last Last fby z | int[1] [1] fby i1 | int[8] [1, 2, -3, 4, 5, 6, 7, -8] fby i8 | bool[2] [true, false] fby b2 | way[3] [Up, Left, Up] fby w3 | one[1] [Only] fby o1 | int 1 fby 2 fby i | int 0 fby none()`, `
0 fby b | true fby i | -1 fby b | Up fby z | Up fby h | Up fby i | 0 fby w | 0 fby i1 | [0] fby i | [1, 2] fby i1 | [1] fby i2 | [1, 2] fby b2 | [true, false] fby i2 | [Up] fby z1 | [Zero] fby w1
Nope fby w | [Nope] fby w1 | [Up, Nope, Up] fby w3 | [1, true] fby i2 | [1, true] fby b2 | [Up, Last, Up] fby w3 | 0 fby nope | [1] fby nope | Nope fby nope`},
		{"ExArrow", `
int i -> j | bool b -> c | way Up -> w | hue[8] h8 -> h8 | int[2] [1, 2] -> i2 | int i -> j -> 1 | int 0 -> pre i`, `
i -> b | b -> i | w -> z | i -> i1 | i1 -> i | i8 -> i1 | b1 -> i1 | i -> nope | nope -> i | nope -> nope | i -> j -> b | i -> (b -> j)`},
		{"ExPre", `
int pre i | bool pre b | way pre w | last pre Last | int[1] pre i1 | int[8] pre i8 | way[8] pre pre w8 | bool pre not b`, `
pre nope | pre Nope | pre pre nope | pre (i + b)`},
		{"ExWhen", `
int i when b | int i when not b | int[8] i8 when c | way w when Up(w) | way v when Left(v) | bool b when Down(w) | last z when Last(z) | last x when Zero(z) | int 1 when Grey(h) | one o when Only(o) | bool b when b | int 1 when b when not c | hue[1] h1 when true(b) | int i when false(c)`, `
i when i | i when w | i when b1 | i when b8 | i when nope | i when not i | i when not w | i when not b1 | i when not nope | i when true(w) | i when false(z)
i when Up(b) | i when Up(i) | i when Up(z) | i when Up(h) | i when Up(w1) | i when Up(w8) | i when Red(w) | i when Last(w) | i when Zero(o) | i when Only(z) | i when Nope(w) | i when Nope(nope) | i when Up(nope) | nope when b | Nope when Up(w) | i when b when w`},
		{"ExMerge", `
int merge b (true -> i) (false -> j) | int[8] merge c (true -> i8) (false -> i8) | bool merge w (Up -> b) (Down -> c) (Left -> true) | way merge v (Up -> Up) (Down -> w) (Left -> v) | last merge z (Zero -> z) (Last -> Zero) | int merge o (Only -> i)
int merge h (Red -> 1) (Green -> 2) (Blue -> 3) (White -> 4) (Black -> 5) (Grey -> i) | one[1] merge b (true -> o1) (false -> [Only])`, `
merge b (true -> i) (false -> b) | merge b (true -> b) (false -> i) | merge b (true -> i1) (false -> i) | merge b (true -> nope) (false -> i) | merge b (true -> i) (false -> nope) | merge w (Up -> i) (Down -> b) (Left -> j) | merge w (Up -> i) (Down -> j) (Left -> b) | merge w (Up -> b) (Down -> i) (Left -> j) | merge o (Only -> nope)
merge i (true -> 1) (false -> 2) | merge w (true -> 1) (false -> 2) | merge b1 (true -> 1) (false -> 2) | merge b8 (true -> 1) (false -> 2) | merge nope (true -> 1) (false -> 2) | merge b (Up -> 1) (Down -> 2) (Left -> 3) | merge z (Up -> 1) (Down -> 2) (Left -> 3) | merge w1 (Up -> 1) (Down -> 2) (Left -> 3) | merge w8 (Up -> 1) (Down -> 2) (Left -> 3) | merge i (Only -> 1) | merge w (Only -> 1) | merge o1 (Only -> 1) | merge o (Nope -> 1)
merge b (true -> 1) | merge b (false -> 1) | merge w (Up -> 1) | merge w (Up -> 1) (Down -> 2) | merge w (Up -> 1) (Left -> 2) | merge w (Down -> 1) (Left -> 2) | merge z (Zero -> 1) | merge z (Last -> 1) | merge h (Red -> 1) (Green -> 2) (Blue -> 3) (White -> 4) (Black -> 5)
merge b (false -> 1) (true -> 2) | merge w (Down -> 1) (Up -> 2) (Left -> 3) | merge w (Up -> 1) (Left -> 2) (Down -> 3) | merge w (Left -> 1) (Down -> 2) (Up -> 3) | merge z (Last -> 1) (Zero -> 2) | merge h (Red -> 1) (Green -> 2) (Blue -> 3) (White -> 4) (Grey -> 5) (Black -> 6)
merge b (true -> 1) (false -> 2) (Up -> 3) | merge b (true -> 1) (Up -> 2) | merge w (Up -> 1) (Down -> 2) (Left -> 3) (Red -> 4) | merge w (Up -> 1) (Down -> 2) (Last -> 3) | merge w (Red -> 1) (Down -> 2) (Left -> 3) | merge w (Up -> 1) (Down -> 2) (Left -> 3) (true -> 4) | merge w (Up -> 1) (Nope -> 2) (Left -> 3) | merge z (Only -> 1) (Last -> 2) | merge o (Only -> 1) (Up -> 2) | merge w (Red -> 1) (Green -> 2) (Blue -> 3)`},
		{"ExCall", `
int none() | bool neg(i) | bool neg(-1) | way[3] six(i, b, w, z, i2, b8) | int none() every b | bool neg(j) every (not c) | way[3] six(1, true, Up, Last, [1, 2], b8) every neg(2) | bool neg(none()) | int none() every b8[0] | way six(i, b, w, z, i2, b8)[2]`, `
pair(w) | pair(Up) every b | main(i, b, w, z, i1, i8) | nope() | nope(i) | way() | i() | neg | none(i) | none(b) | none(i) every b | neg() | neg() every b | neg(i, j) | neg(i, b) | neg(i, i, i) | neg(b) | neg(w) | neg(i1) | neg(true) | neg(nope) | neg(Nope) | neg(neg(1))
six(i, b, w, z, i2) | six(b, w, z, i2, b8) | six(i, b, w, z, i2) every b | six(b, i, w, z, i2, b8) | six(i, b, z, w, i2, b8) | six(i, b, w, z, b8, i2) | six(b8, b, w, z, i2, i) | six(b, b, w, z, i2, b8) | six(i, i, w, z, i2, b8) | six(i, b, z, z, i2, b8) | six(i, b, w, w, i2, b8) | six(i, b, w, z, i1, b8) | six(i, b, w, z, i8, b8) | six(i, b, w, z, i, b8) | six(i, b, w, z, i2, b2) | six(i, b, w, z, i2, b) | six(i, b, w, z, i2, nope) | six(nope, b, w, z, i2, b8) | six(i1, b, w, z, i2, b8)
none() every i | none() every 1 | none() every w | none() every b1 | none() every b8 | none() every nope | none() every Nope | none() every neg() | neg(i) every i | neg(i) every b2 | neg(b) every b | neg(b) every i | six(i, b, w, z, i2, b8) every b8 | six(i, b, w, z, i2, b8) every w`},
		{"ExArr", `
int[1] [i] | int[2] [i, 1] | int[8] [i, j, 1, -1, i + j, none(), i1[0], i8[7]] | bool[3] [b, true, not c] | way[2] [w, Up] | last[1] [Last] | hue[8] [h, Red, h, Red, h, Red, h, Grey] | one[1] [o]`, `
[i1] | [i8] | [[1]] | [[1], [2]] | [b1] | [w8] | [o1] | [i1, i1] | [i, i1] | [i1, i] | [i, b] | [b, i] | [i, j, b] | [i, b, j] | [w, z] | [Up, Red] | [i, Up] | [nope] | [i, nope] | [nope, i] | [Nope] | [1, 2, 3, 4, 5, 6, 7, true]`},
		{"ExAt", `
int i1[0] | int i8[i] | int i8[i8[i8[0]]] | bool b8[-1] | bool b1[i + j] | way w1[0] | way w8[8] | last z8[none()] | hue h1[j] | one o1[1] | int [1, 2, 3][i] | way [Up][0]`, `
i[0] | b[i] | w[0] | nope[0] | 1[0] | Up[0] | none()[0] | i8[b] | i8[true] | i8[w] | i8[Up] | i8[i1] | i8[i8] | i8[[1]] | i8[nope] | w8[w] | b8[b] | i8[0][0] | i[b] | [i1][0]`},
		{"ExSet", `
int[1] (i1 with [0] = i) | int[8] (i8 with [i] = -1) | bool[8] (b8 with [j] = not b) | way[3] (w3 with [0] = Up) | last[1] (z1 with [i] = z) | int[2] ([1, 2] with [i8[0]] = none()) | int[8] ((i8 with [0] = 1) with [1] = 2) | one[1] (o1 with [0] = Only)`, `
(i with [0] = 1) | (b with [0] = true) | (w with [0] = Up) | (nope with [0] = 1) | (none() with [0] = 1) | (i8 with [b] = 1) | (i8 with [true] = 1) | (i8 with [w] = 1) | (i8 with [i1] = 1) | (i8 with [i8] = 1) | (i8 with [nope] = 1) | (b8 with [b] = true)
(i8 with [0] = b) | (i8 with [0] = true) | (i8 with [0] = Up) | (i8 with [0] = i1) | (i8 with [0] = i8) | (i8 with [0] = nope) | (b8 with [0] = 1) | (w8 with [0] = Last) | (w8 with [0] = w1) | (z8 with [0] = w) | (o1 with [0] = Red) | (i with [b] = 1) | (i8 with [b] = b)`},
		{"ExOld", ``, `
'i' | 'main/i' | 'a/b.12'`},
	}
}

// cells are the texts between the strokes.
func cells(s string) []string {
	return strings.FieldsFunc(s, func(r rune) bool { return r == '|' || r == '\n' })
}

// P16.2: each row of the table: what has a type, and what is asked not kept, one at a time.
func TestRows(t *testing.T) {
	p := program(t, bench)
	for _, r := range table() {
		for _, s := range cells(r.well) {
			want, text, _ := strings.Cut(strings.TrimSpace(s), " ")
			is(t, p, main, expression(t, text), want)
		}
		for _, s := range cells(r.none) {
			is(t, p, main, expression(t, s), "")
		}
	}
}

// P16.2: what stands in the chapter's table without a type makes what it is in one without, in whichever of its places.
func TestRowsInOneAnother(t *testing.T) {
	p := program(t, bench)
	within := `
-@ | not @ | @ + 1 | 1 - @ | @ * 1 | i / @ | @ mod i | @ and true | true or @ | b xor @ | @ = 1 | i <> @ | @ < i | i <= @ | @ > i | i >= @
if @ then i else j | if b then @ else j | if b then i else @ | 1 fby @ | -1 fby @ | [1, 2] fby @ | @ -> i | i -> @ | pre @
@ when b | @ when not b | @ when Up(w) | merge b (true -> @) (false -> i) | merge b (true -> i) (false -> @) | merge w (Up -> i) (Down -> j) (Left -> @) | merge o (Only -> @)
none() every @ | neg(@) | neg(@) every b | neg(i) every @ | six(@, b, w, z, i2, b8) | six(i, b, w, z, i2, @) | six(i, b, w, z, i2, b8) every @
[@] | [@, i] | [i, @] | [1, 2, 3, 4, 5, 6, 7, @] | @[1] | i8[@] | (@ with [i] = j) | (i8 with [@] = j) | (i8 with [i] = @)`
	for _, r := range table() {
		for _, s := range cells(r.none) {
			for _, around := range cells(within) {
				is(t, p, main, expression(t, strings.Replace(around, "@", "("+s+")", 1)), "")
			}
		}
		for _, s := range cells(r.well) {
			_, text, _ := strings.Cut(strings.TrimSpace(s), " ")
			for _, around := range cells(within) {
				e := expression(t, strings.Replace(around, "@", "("+text+")", 1))
				is(t, p, main, e, reckoned(p, main, e))
			}
		}
	}
}

// P16.2: what lies as deep as it may, and what is as great as it may be, is asked as well.
func TestRowsFar(t *testing.T) {
	p := program(t, bench)
	deepest := func(s, want string) {
		e := expression(t, s)
		if expr.Depth(e) != api.MaxDepth {
			t.Fatalf("%s is not as deep as it may be", s)
		}
		is(t, p, main, e, want)
	}
	for s, want := range map[string]string{"i": "int", "b": "", "i1": "", "nope": "", "Nope": "", "w": "", "'i'": ""} {
		deepest(strings.Repeat("i * (", 11)+s+strings.Repeat(")", 11), want)
		deepest(strings.Repeat("(", 11)+s+strings.Repeat(" * i)", 11), want)
		deepest(strings.Repeat("if b then i else (", 11)+s+strings.Repeat(")", 11), want)
	}
	for s, want := range map[string]string{"i": "int", "b": "bool", "w8": "way[8]", "nope": "", "Only": "one", "Nope": ""} {
		deepest(strings.Repeat("pre ", 11)+s, want)
	}
	for s, want := range map[string]string{"i": "int[8]", "b": "", "nope": "", "Nope": "", "i8": "", "Up": "", "w": "", "i1": ""} {
		e := over(api.ExArr, slices.Repeat([]api.Expr{expression(t, "1 + i + (1 + i)")}, 7)...)
		e.Subs = append(e.Subs, expression(t, "-1 + 2 + (4 * "+s+") + 3"))
		if expr.Size(e) != api.MaxTerms {
			t.Fatalf("%s is not as great as it may be", s)
		}
		is(t, p, main, e, want)
	}
}
