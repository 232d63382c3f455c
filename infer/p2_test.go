package infer_test

import (
	"errors"
	"strings"
	"testing"

	"typer/api"
	"typer/infer"
)

// shows: Show answers that text.
func shows(t *testing.T, src, want string) {
	t.Helper()
	if got, err := infer.Show(src); got != want || err != nil {
		t.Errorf("P2: Show(%q) = %q, %v, want %q", src, got, err, want)
	}
}

// refusedAt: Show answers a *SyntaxError at that place, and the empty text.
func refusedAt(t *testing.T, src string, at int) {
	t.Helper()
	var s *api.SyntaxError
	if got, err := infer.Show(src); got != "" || !errors.As(err, &s) || s.At != at {
		t.Errorf("P2: Show(%q) = %q, %v, want a *SyntaxError at %d", src, got, err, at)
	}
}

// refusedBy: Show answers that error, and the empty text.
func refusedBy(t *testing.T, src string, want error) {
	t.Helper()
	if got, err := infer.Show(src); got != "" || !errors.Is(err, want) {
		t.Errorf("P2: Show(%.60q) = %q, %v, want %v", src, got, err, want)
	}
}

func TestP2OneText(t *testing.T) {
	for _, c := range []struct{ src, want string }{
		{"x", "x"},
		{"007", "007"},
		{"fun x->x", "fun x -> x"},
		{"(1,(true))", "(1, true)"},
		{"( ( x ) , ( ( y ) ) )", "(x, y)"},
		{"(((x,y)),z)", "((x, y), z)"},
		{"(fun x->x,if a then b else c)", "(fun x -> x, if a then b else c)"},
		{"(f x,g y)", "(f x, g y)"},
		{"f x y z", "f x y z"},
		{"((f x) y) z", "f x y z"},
		{"f (x y) z", "f (x y) z"},
		{"f (x (y z))", "f (x (y z))"},
		{"f(x,y)(1)", "f (x, y) 1"},
		{"(x,y)(x,y)", "(x, y) (x, y)"},
		{"1x", "1 x"},
		{"(fun x -> x) (fun y -> y)", "(fun x -> x) (fun y -> y)"},
		{"(fun x -> x) 1 2", "(fun x -> x) 1 2"},
		{"(let x = 1 in x) (let y = 2 in y)", "(let x = 1 in x) (let y = 2 in y)"},
		{"(let rec x = 1 in x) (let rec y = 2 in y)", "(let rec x = 1 in x) (let rec y = 2 in y)"},
		{"(if a then b else c) (if d then e else f)", "(if a then b else c) (if d then e else f)"},
		{"fun x -> (f x)", "fun x -> f x"},
		{"fun x -> (fun y -> (fun z -> x))", "fun x -> fun y -> fun z -> x"},
		{"if (if a then b else c) then (fun x -> x) else (let x = 1 in x)", "if if a then b else c then fun x -> x else let x = 1 in x"},
		{"let x = (let y = 1 in y) in (x)", "let x = let y = 1 in y in x"},
		{"let x=1 in let x=2 in x", "let x = 1 in let x = 2 in x"},
		{"let rec f=(1)and g=(f 2)and h=(fun f->f)in(f,g)", "let rec f = 1 and g = f 2 and h = fun f -> f in (f, g)"},
		{"let rec f = (let rec g = 1 in g) and h = 2 in h", "let rec f = let rec g = 1 in g and h = 2 in h"},
		{"let rec f = let rec g = 1 and f = 2 in g in f", "let rec f = let rec g = 1 and f = 2 in g in f"},
		{"let rec f = 1 and g = let rec f = 2 in f in f", "let rec f = 1 and g = let rec f = 2 in f in f"},
		{"fun x -> fun x -> x", "fun x -> fun x -> x"},
	} {
		shows(t, c.src, c.want)
		shows(t, c.want, c.want)
	}
}

func TestP2Words(t *testing.T) {
	for _, name := range []string{"funx", "fun1", "letrec", "int", "bool", "in1", "ands", "elsee", "a0z9"} {
		shows(t, name, name)
		shows(t, "fun "+name+"->"+name, "fun "+name+" -> "+name)
	}
	for _, word := range []string{"fun", "let", "rec", "and", "in", "if", "then", "else"} {
		refusedAt(t, "fun "+word+" -> 1", 4)
		if word != "rec" {
			refusedAt(t, "let "+word+" = 1 in 1", 4)
		}
		refusedAt(t, "let rec "+word+" = 1 in 1", 8)
		refusedAt(t, "f "+word, 2)
	}
	refusedAt(t, "let rec = 1 in 1", 8)
	refusedAt(t, "letrec f = 1 in f", 9)
}

func TestP2Blanks(t *testing.T) {
	for _, blank := range []string{" ", "\n", "  ", "\n \n"} {
		words := strings.Fields("let rec f = fun x -> if ( x , 1 ) then f x else ( g ) and g = 2 in let y = f in y")
		src := blank + strings.Join(words, blank) + blank
		shows(t, src, "let rec f = fun x -> if (x, 1) then f x else g and g = 2 in let y = f in y")
	}
	for _, none := range []string{"\t", "\r", "\v", "\f", "\x00", "\u00a0"} {
		refusedAt(t, none+"x", 0)
		refusedAt(t, "x "+none+" y", 2)
		refusedAt(t, "x"+none, 1)
	}
}

func TestP2Long(t *testing.T) {
	shows(t, "x"+strings.Repeat(" ", api.MaxText-1), "x")
	shows(t, strings.Repeat("\n", api.MaxText-1)+"x", "x")
	half := (api.MaxText - 2) / 2
	shows(t, strings.Repeat("(", half)+"xy"+strings.Repeat(")", half), "xy")
	refusedAt(t, strings.Repeat(" ", api.MaxText), api.MaxText)
	refusedAt(t, strings.Repeat("(", api.MaxText), api.MaxText)
	for _, src := range []string{"x", ")", "x x "} {
		refusedBy(t, src+strings.Repeat(" ", api.MaxText+1-len(src)), api.ErrLong)
	}
	refusedBy(t, strings.Repeat("x ", api.MaxText), api.ErrLong)
	refusedBy(t, strings.Repeat("(", api.MaxText+1), api.ErrLong)
}

func TestP2NamesAndNumbers(t *testing.T) {
	name, number := "a"+strings.Repeat("1", api.MaxName-1), strings.Repeat("1", api.MaxName)
	shows(t, name, name)
	shows(t, number, number)
	shows(t, "fun "+name+" -> "+number, "fun "+name+" -> "+number)
	shows(t, number+name, number+" "+name)
	refusedAt(t, name+"1", 0)
	refusedAt(t, name+"a", 0)
	refusedAt(t, number+"1", 0)
	refusedAt(t, "f "+name+"1", 2)
	refusedAt(t, "f "+number+"1", 2)
	refusedAt(t, "fun "+name+"1 -> x", 4)
	refusedAt(t, "let "+name+"1 = 1 in 1", 4)
	refusedAt(t, "let rec f = 1 and "+name+"1 = 2 in 1", 18)
}

// deep: an expression of that depth, in few bytes.
func deep(n int) string { return strings.Repeat("x ", n-1) + "x" }

func TestP2Deep(t *testing.T) {
	shows(t, deep(api.MaxDepth), deep(api.MaxDepth))
	refusedBy(t, deep(api.MaxDepth+1), api.ErrDeep)
	for _, around := range []string{
		"fun x -> @", "if @ then x else x", "if x then @ else x", "if x then x else @",
		"let x = @ in x", "let x = x in @",
		"let rec x = @ in x", "let rec x = x and y = @ and z = x in x", "let rec x = x and y = x and z = @ in x", "let rec x = x in @",
		"(@) x", "x (@)", "(@, x)", "(x, @)",
	} {
		below := strings.Replace(around, "@", deep(api.MaxDepth-1), 1)
		if text, err := infer.Show(below); text == "" || err != nil {
			t.Errorf("P2: Show(%q) = %q, %v, want no error", below, text, err)
		}
		refusedBy(t, strings.Replace(around, "@", deep(api.MaxDepth), 1), api.ErrDeep)
	}
	shows(t, "((("+deep(api.MaxDepth)+")))", deep(api.MaxDepth))
	// Parts beside each other are not within each other.
	shows(t, "("+deep(api.MaxDepth-1)+","+deep(api.MaxDepth-1)+")", "("+deep(api.MaxDepth-1)+", "+deep(api.MaxDepth-1)+")")
	// What is wrong in the text comes first.
	refusedAt(t, deep(api.MaxDepth+1)+")", 2*api.MaxDepth+1)
}

func TestP2WrongPlace(t *testing.T) {
	for _, c := range []struct {
		src string
		at  int
	}{
		{"(x, y, z)", 5}, {"f fun x -> x", 2}, {"abcdefghi", 0}, {"a - b", 2}, {"X", 0}, {"xX", 1}, {"x#", 1}, {"é", 0},
		{"()", 1}, {"(,x)", 1}, {"(x,)", 3}, {"x)", 1}, {"x,y", 1}, {"(x", 2}, {"(x y", 4},
		{"[x]", 0}, {"x [y]", 2}, {"x]", 1}, {"x = y", 2}, {"x -> y", 2}, {"-> x", 0}, {"fun x - > x", 6}, {"fun x = x", 6},
		{"fun 1 -> x", 4}, {"fun (x) -> x", 4}, {"fun x y -> x", 6}, {"fun -> x", 4},
		{"let 1 = 2 in 3", 4}, {"let x -> 1 in x", 6}, {"let x = in x", 8}, {"let x = 1 then x", 10}, {"let f x = 1 in f", 6},
		{"let f = 1 and g = 2 in 1", 10}, {"let rec f = 1 and 2 = 3 in 1", 18}, {"let rec f = 1 and in 1", 18}, {"let rec f = 1 g = 2 in 1", 16},
		{"let rec rec f = 1 in 1", 8}, {"let x = 1 in x in x", 15}, {"let x = 1 in x and y = 2", 15},
		{"if then 1 else 2", 3}, {"if x else 1", 5}, {"if x then else 1", 10}, {"if x then y then z", 12}, {"if x then y else z else w", 19},
		{"rec", 0}, {"and", 0}, {"in", 0}, {"then", 0}, {"else", 0}, {"f let x = 1 in x", 2}, {"f if", 2},
		{") #", 0}, {"# )", 0}, {"x ) abcdefghi", 2},
	} {
		refusedAt(t, c.src, c.at)
	}
}

func TestP2SameNameTwice(t *testing.T) {
	refusedAt(t, "let rec f = 1 and f = 2 in 1", 18)
	refusedAt(t, "let rec f = 1 and g = 2 and f = 3 in 1", 28)
	refusedAt(t, "let rec f = 1 and g = 2 and g = 3 in 1", 28)
	refusedAt(t, "let rec f = let rec g = 1 and g = 2 in g in f", 30)
	refusedAt(t, "let rec f = let rec g = 1 in g and f = 2 in f", 35)
	refusedAt(t, "let rec f = 1 and f", 18)
	refusedAt(t, "let rec f = 1 and f #", 18)
	shows(t, "let rec f = 1 and f1 = 2 in 1", "let rec f = 1 and f1 = 2 in 1")
}

func TestP2EndsTooSoon(t *testing.T) {
	refusedAt(t, "", 0)
	refusedAt(t, " \n ", 3)
	for _, src := range []string{
		"fun x -> ( 1 , x )",
		"if a then b else c",
		"let x = 1 in x",
		"let rec f = 1 and g = 2 in f",
	} {
		words := strings.Fields(src)
		for n := range words {
			short := strings.Join(words[:n], " ")
			refusedAt(t, short, len(short))
			refusedAt(t, short+" \n", len(short)+2)
		}
	}
}
