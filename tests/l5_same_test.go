package tests

import (
	"reflect"
	"runtime"
	"slices"
	"strconv"
	"strings"
	"testing"
	"unsafe"

	"loop.example/warp/impl"
)

// shown writes a value down, with nil and an empty list as one; with full, what lies behind the end of its lists too.
func shown(v reflect.Value, full bool) string { return string(show(nil, v, full)) }

func show(s []byte, v reflect.Value, full bool) []byte {
	switch v.Kind() {
	case reflect.Slice:
		s = append(strconv.AppendInt(s, int64(v.Len()), 10), '[')
		if full {
			v = v.Slice(0, v.Cap())
		}
		for i := range v.Len() {
			s = append(show(s, v.Index(i), full), ' ')
		}
		return append(s, ']')
	case reflect.Struct:
		for i := range v.NumField() {
			s = append(show(s, v.Field(i), full), ';')
		}
		return s
	case reflect.String:
		return strconv.AppendQuote(s, v.String())
	case reflect.Bool:
		return strconv.AppendBool(s, v.Bool())
	}
	return strconv.AppendInt(s, v.Int(), 10)
}

// scribble writes over all that a value has, and over what lies behind the end of its lists.
func scribble(v reflect.Value) {
	switch v.Kind() {
	case reflect.Slice:
		v = v.Slice(0, v.Cap())
		for i := range v.Len() {
			scribble(v.Index(i))
		}
	case reflect.Struct:
		for i := range v.NumField() {
			scribble(v.Field(i))
		}
	case reflect.String:
		v.SetString("over")
	case reflect.Bool:
		v.SetBool(!v.Bool())
	default:
		v.SetInt(77)
	}
}

// stretch is the memory of a list or of a text.
type stretch struct {
	from, to uintptr
	list     bool
}

func stretches(v reflect.Value) []stretch {
	var all []stretch
	add := func(from uintptr, size int, list bool) {
		if size > 0 {
			all = append(all, stretch{from, from + uintptr(size), list})
		}
	}
	switch v.Kind() {
	case reflect.Slice:
		add(v.Pointer(), v.Cap()*int(v.Type().Elem().Size()), true)
		for i := range v.Len() {
			all = append(all, stretches(v.Index(i))...)
		}
	case reflect.Struct:
		for i := range v.NumField() {
			all = append(all, stretches(v.Field(i))...)
		}
	case reflect.String:
		add(uintptr(unsafe.Pointer(unsafe.StringData(v.String()))), v.Len(), false)
	}
	slices.SortFunc(all, func(a, b stretch) int { return int(a.from) - int(b.from) })
	return all
}

// wantApart fails when an answer has memory of its argument, or two lists of it have memory in common.
func wantApart(t *testing.T, name string, answer, argument reflect.Value) {
	t.Helper()
	var lists []stretch
	given := stretches(argument)
	for _, a := range stretches(answer) {
		if slices.ContainsFunc(given, func(g stretch) bool { return a.from < g.to && g.from < a.to }) {
			t.Fatalf("%s: an answer has memory of its argument %.300q", name, shown(argument, false))
		}
		if a.list {
			lists = append(lists, a)
		}
	}
	for i := 1; i < len(lists); i++ {
		if lists[i].from < lists[i-1].to {
			t.Fatalf("%s: two lists of an answer share memory, of %.300q", name, shown(argument, false))
		}
	}
}

// wantSame fails unless a call leaves its argument as it was, and a second one has the same answer, also when the first
// has been written into; so has a call with another argument that is the same but for its memory.
func wantSame[A, B any](t *testing.T, name string, argument, other A, call func(A) B) string {
	t.Helper()
	given := reflect.ValueOf(argument)
	before := shown(given, true)
	unchanged := func(when string) {
		t.Helper()
		if got := shown(given, true); got != before {
			t.Fatalf("%s: %s the argument is\n%.500s, was\n%.500s", name, when, got, before)
		}
	}
	first := call(argument)
	unchanged("behind a call")
	answer := reflect.ValueOf(&first).Elem()
	was := shown(answer, false)
	wantApart(t, name, answer, given)
	runtime.KeepAlive(argument)
	scribble(answer)
	unchanged("with the answer written into")
	second := call(argument)
	if got := shown(reflect.ValueOf(second), false); got != was {
		t.Fatalf("%s of %.300s:\n%.500s, was\n%.500s", name, before, got, was)
	}
	third := call(other)
	if got := shown(reflect.ValueOf(third), false); got != was {
		t.Fatalf("%s of another argument that is the same as %.300s:\n%.500s, was\n%.500s", name, before, got, was)
	}
	if got := shown(reflect.ValueOf(second), false); got != was {
		t.Fatalf("%s of %.300s: an answer becomes\n%.500s, was\n%.500s", name, before, got, was)
	}
	return was
}

// sameForText is the answers of all functions of a text, each asked for as P12 wants it.
func sameForText(t *testing.T, text string) string {
	t.Helper()
	one, other := strings.Clone(text), strings.Clone(text)
	return wantSame(t, "Scan", one, other, impl.Scan) +
		wantSame(t, "Quote", one, other, impl.Quote) +
		wantSame(t, "Parse", one, other, impl.Parse) +
		wantSame(t, "Next", one, other, impl.Next) +
		wantSame(t, "Tidied", one, other, impl.Tidied) +
		wantSame(t, "Answer", one, other, impl.Answer)
}

// sameForTree is the answers of all functions of a tree.
func sameForTree(t *testing.T, x impl.Tree) string {
	t.Helper()
	one, other := roomy(x), copied(x)
	all := wantSame(t, "TreeOk", one, other, impl.TreeOk) +
		wantSame(t, "Bare", one, other, impl.Bare) +
		wantSame(t, "Print", one, other, impl.Print) +
		wantSame(t, "Outline", one, other, impl.Outline) +
		wantSame(t, "Dump", one, other, impl.Dump)
	for _, at := range []int{-1, 0, 3, 1<<63 - 1} {
		all += wantSame(t, "Path", one, other, func(x impl.Tree) []int { return impl.Path(x, at) })
	}
	return all
}

// roomy is a copy of a tree, behind whose lists there is memory of the caller's, and whose texts are its own.
func roomy(x impl.Tree) impl.Tree {
	x = copied(x)
	for i := range x.Nodes {
		n := &x.Nodes[i]
		n.Text = strings.Clone(n.Text)
		for j := range n.Names {
			n.Names[j] = strings.Clone(n.Names[j])
		}
		n.Names = append(slices.Clone(n.Names), "behind", "it")[:len(n.Names)]
		n.Kids = append(slices.Clone(n.Kids), 88, 99)[:len(n.Kids)]
	}
	x.Nodes = append(slices.Clone(x.Nodes), impl.Node{Kind: 5}, impl.Node{Text: "behind it"})[:len(x.Nodes)]
	return x
}

// wantSameInAnyOrder asks for answers again, the last one first.
func wantSameInAnyOrder[A any](t *testing.T, arguments []A, ask func(*testing.T, A) string) {
	t.Helper()
	var answers []string
	for _, argument := range arguments {
		answers = append(answers, ask(t, argument))
	}
	for i, argument := range slices.Backward(arguments) {
		if got := ask(t, argument); got != answers[i] {
			t.Fatalf("%.500s, was %.500s", got, answers[i])
		}
	}
}

func TestP12Texts(t *testing.T) {
	t.Parallel()
	texts := []string{
		eachKindText, "x", "if a {} elfi", "throw \"q", strings.Repeat("n", 41) + "()", strings.Repeat("n", 4000), strings.Repeat("n", 4001),
		many(300, "break", ";"), strings.Repeat(" ", 65536), strings.Repeat(" ", 65537), "x = " + many(90, "a", "+") + " + " + many(30, "b", ".."),
		"x = {" + many(150, "{a, \"b\", 1.5}", ",") + "}", "let " + many(200, "name", ","), strings.Repeat("{", 100) + strings.Repeat("}", 100),
	}
	for _, f := range allForms() {
		texts = append(texts, f.text)
	}
	var d dice = 34
	for range 60 {
		text, _ := d.inscribed()
		texts = append(texts, text, d.spoilt(text))
	}
	for range 200 {
		text := ""
		for range 1 + d.roll(9) {
			text += pieceTexts[d.roll(len(pieceTexts))]
		}
		texts = append(texts, text)
	}
	wantSameInAnyOrder(t, texts, sameForText)
}

func TestP12Trees(t *testing.T) {
	t.Parallel()
	trees := []impl.Tree{{}, text(), broad(3000), broad(3001), chain(100), chain(101), impl.Parse(eachKindText).Tree}
	for _, r := range treeRows {
		good, _ := held(r.with(r.good[0]))
		last, _ := held(r.with(r.good[len(r.good)-1]))
		wrong, _ := held(r.with(r.wrong[0]))
		trees = append(trees, good, last, wrong)
	}
	var d dice = 35
	for range 200 {
		x := d.wrapped(d.grown('s', d.roll(5)))
		d.vary(&x)
		sound := text(x, d.grown('s', 2))
		for i := range sound.Nodes {
			n := &sound.Nodes[i]
			n.From, n.To, n.Line = d.roll(4), 4+d.roll(9), d.roll(30)
		}
		spoilt := copied(sound)
		d.spoil(&spoilt)
		trees = append(trees, sound, spoilt)
	}
	wantSameInAnyOrder(t, trees, sameForTree)
}

// Nodes that have one list in common have lists of their own in an answer.
func TestP12TreesWhoseNodesShareLists(t *testing.T) {
	names, kids := []string{"a", "b"}, []int{0}
	x := impl.Tree{Nodes: []impl.Node{
		{Kind: impl.SBlock},
		{Kind: impl.EFn, Names: names, Kids: kids},
		{Kind: impl.SFn, Names: names[:1], Kids: []int{1}},
		{Kind: impl.SLet, Names: names},
		{Kind: impl.SBlock, Kids: []int{2, 3}},
	}}
	wantTree(t, x, 0, 0)
	want := sameForTree(t, x)
	wantSame(t, "Bare", x, copied(x), impl.Bare)
	wantSame(t, "Print", x, copied(x), impl.Print)
	wantSame(t, "Outline", x, copied(x), impl.Outline)
	wantSame(t, "Dump", x, copied(x), impl.Dump)
	if got := sameForTree(t, x); got != want {
		t.Errorf("%s, was %s", got, want)
	}
}

func TestP12Tokens(t *testing.T) {
	var tokens []impl.Token
	for k := -1; k <= 80; k++ {
		for _, content := range []string{"", "name", "1.5", "\"\n\xff", strings.Repeat("n", 40), strings.Repeat("7", 41), strings.Repeat("q", 4001)} {
			for _, n := range []int64{0, 31, -1, -1 << 63, 1<<63 - 1} {
				tokens = append(tokens, impl.Token{Kind: k, From: 1, To: 2, Line: 3, Num: n, Text: strings.Clone(content)})
			}
		}
	}
	wantSameInAnyOrder(t, tokens, func(t *testing.T, token impl.Token) string {
		other := token
		other.Text = strings.Clone(token.Text)
		// places are no part of what a token is written as
		other.From, other.To, other.Line = -1, 1<<63-1, 0
		return wantSame(t, "TokenText", token, other, impl.TokenText)
	})
}
