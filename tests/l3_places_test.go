package tests

import (
	"slices"
	"strings"
	"testing"

	"loop.example/warp/impl"
)

// wantPlaces fails unless the places of a tree are as P8 asks.
func wantPlaces(t *testing.T, text string, x impl.Tree) {
	t.Helper()
	begins, ends := map[int]bool{}, map[int]bool{}
	for _, token := range impl.Scan(text).Tokens {
		begins[token.From], ends[token.To] = token.Kind != impl.TLine, token.Kind != impl.TLine
	}
	last := len(x.Nodes) - 1
	for i, n := range x.Nodes {
		from := n.From
		for _, kid := range n.Kids {
			below := x.Nodes[kid]
			if below.From < from || below.To > n.To {
				t.Fatalf("%.200q: node %d (%+v) does not lie where it can in %+v", text, kid, below, n)
			}
			from = below.To
		}
		if i == last {
			if n.From != 0 || n.To != len(text) || n.Line != 1 {
				t.Fatalf("%.200q: the last node is %+v", text, n)
			}
		} else if n.Line != 1+strings.Count(text[:n.From], "\n") || !begins[n.From] || !ends[n.To] || n.From >= n.To {
			t.Fatalf("%.200q: the places of node %d are wrong: %+v", text, i, n)
		}
	}
	first := 0
	for _, kid := range x.Nodes[last].Kids {
		wantAlone(t, text, x.Nodes[first:kid+1], first)
		first = kid + 1
	}
}

// wantAlone fails unless the bytes of a statement are a text with this one statement.
func wantAlone(t *testing.T, text string, nodes []impl.Node, first int) {
	t.Helper()
	stat := nodes[len(nodes)-1]
	piece := text[stat.From:stat.To]
	want := copied(impl.Tree{Nodes: nodes})
	for i := range want.Nodes {
		n := &want.Nodes[i]
		n.From, n.To, n.Line = n.From-stat.From, n.To-stat.From, n.Line-stat.Line+1
		for j := range n.Kids {
			n.Kids[j] -= first
		}
	}
	want.Nodes = append(want.Nodes, impl.Node{Kind: impl.SBlock, To: len(piece), Line: 1, Kids: []int{len(nodes) - 1}})
	p := impl.Parse(piece)
	if p.Code != 0 {
		t.Fatalf("%.200q alone: code %d at %d", piece, p.Code, p.At)
	}
	wantNodes(t, piece, p.Tree, want)
}

// Each text that the tests of the other promises parse goes through wantPlaces as well.
func TestP8PlacesOfEachForm(t *testing.T) {
	for _, f := range allForms() {
		for _, text := range []string{f.text, "\n\n\t" + f.text + "\n", ";" + f.text, "{{" + f.text + "\n}}"} {
			parsed(t, text)
		}
	}
}

func TestP8ParenthesesBelongToTheNodeAround(t *testing.T) {
	wantParsed(t, "x = ((a)).b((c)) .. (d)", set(1, "x = ((a)).b((c)) .. (d)", nm("x"), bin(impl.OpJoin, "((a)).b((c)) .. (d)",
		call("((a)).b((c))", field("b", "((a)).b", nm("a")), nm("c")), nm("d"))))
	wantParsed(t, "\n(\n(f)())\n.x = (\n1)", set(1, "(\n(f)())\n.x = (\n1)", field("x", "(\n(f)())\n.x",
		of(impl.EOne, "(\n(f)())", call("(f)()", nm("f")))), num("1", 1)))
	wantParsed(t, "if (a) {} elif ((b)) {}", of(impl.SIf, "if (a) {} elif ((b)) {}", nm("a"), block("{}"), of(impl.SIf, "elif ((b)) {}", nm("b"), block("{}"))))
	wantParsed(t, "for i = (1), ((2)) {}", naming(impl.SFor, "i", "for i = (1), ((2)) {}", num("1", 1), num("2", 2), block("{}")))
	wantParsed(t, "let a = (b)", naming(impl.SLet, "a", "let a = (b)", nm("b")))
	wantParsed(t, "const k = ((v))", naming(impl.SConst, "k", "const k = ((v))", nm("v")))
	wantParsed(t, "return (a), (b)", of(impl.SReturn, "return (a), (b)", nm("a"), nm("b")))
	wantParsed(t, "throw -((a))", thrown("throw -((a))", un(impl.OpNeg, "-((a))", nm("a"))))
	wantParsed(t, "throw (\n\na) + b", thrown("throw (\n\na) + b", bin(impl.OpAdd, "(\n\na) + b", nm("a"), nm("b"))))
}

// blanks can be put in everywhere between two tokens, lineBlanks where a newline is one, moreSeps beside a SEP.
var blanks = []string{" ", "\t", "\r", " \t\r  "}

// (a remark begins behind a blank, since one that begins behind a - would take it in)
var lineBlanks = []string{"\n", "\n\n", " --\n", " -- r ( \" else\n\t", "\n--\n--\n"}
var moreSeps = []string{";", "\n", ";;", "\n;\n", ";-- r\n", " ; \n ;"}

// gap is a place between two tokens of a text, ahead of the first or behind the last, with what can be put in there.
type gap struct {
	from, to int
	fill     []string
}

// gapsOf is the gaps of a well-formed text by the second reading.
func gapsOf(r *reader, text string) []gap {
	var gaps []gap
	tokens := impl.Scan(text).Tokens
	s := r.begin
	from, behindSep := 0, false
	for i := range len(tokens) + 1 {
		to, kind := len(text), impl.TEnd
		if i < len(tokens) {
			to, kind = tokens[i].From, tokens[i].Kind
		}
		newline, separates := kind == impl.TLine, r.may(s, impl.TSep)
		if newline && separates {
			kind = impl.TSep
		}
		g := gap{from, to, slices.Clone(blanks)}
		if !separates {
			g.fill = append(g.fill, lineBlanks...)
		}
		if behindSep || kind == impl.TSep {
			g.fill = append(g.fill, moreSeps...)
		}
		if newline || kind == impl.TEnd {
			g.fill = append(g.fill, " -- r", " --")
		}
		gaps = append(gaps, g)
		if kind == impl.TEnd {
			break
		}
		from = tokens[i].To
		if kind == impl.TLine {
			continue
		}
		behindSep = kind == impl.TSep
		s = r.next(s, kind)
	}
	return gaps
}

func wantSameBare(t *testing.T, text, other string) {
	t.Helper()
	want, got := impl.Bare(parsed(t, text)), impl.Bare(parsed(t, other))
	if !sameTree(got, want) {
		t.Fatalf("%q has another tree than %q: %+v, want %+v", other, text, got, want)
	}
}

func p7Texts() []string {
	texts := []string{
		"f()\n\ng() ; h() -- r\nx = a\n", "{ f()\ng() }\n{}", "let a = fn() {\nf()\ng()\n}\nlet b", "if a { return\nf() } elif b {} else { x = 1 }\nf()",
		"x = 1..2 - -3", "x = a--r\ny = b", "f\n()\ng()", "return;return 1", "try { throw a } catch e, f { f() }",
	}
	for _, f := range allForms() {
		texts = append(texts, f.text)
	}
	return texts
}

func TestP7WhatIsPutInAtOnePlace(t *testing.T) {
	t.Parallel()
	for _, text := range p7Texts() {
		for _, g := range gapsOf(newReader(), text) {
			for _, fill := range g.fill {
				wantSameBare(t, text, text[:g.from]+fill+text[g.from:])
				// ahead of a token a remark without its newline would take it in
				if g.from < g.to && (!strings.Contains(fill, "--") || strings.Contains(fill, "\n") || g.to == len(text) || text[g.to] == '\n') {
					wantSameBare(t, text, text[:g.to]+fill+text[g.to:])
				}
			}
		}
	}
}

func TestP7WhatIsPutInEverywhere(t *testing.T) {
	var d dice = 9
	for _, text := range p7Texts() {
		gaps := gapsOf(newReader(), text)
		for range 10 {
			other, at := "", 0
			for _, g := range gaps {
				other += text[at:g.from]
				for range d.roll(3) {
					fill := g.fill[d.roll(len(g.fill))]
					// without its newline a remark would take in what is put in behind it
					if !strings.Contains(fill, "--") || strings.Contains(fill, "\n") {
						other += fill
					}
				}
				at = g.from
			}
			wantSameBare(t, text, other+text[at:])
		}
	}
}

func TestP7OtherBlanks(t *testing.T) {
	for _, text := range p7Texts() {
		gaps := gapsOf(newReader(), text)
		for _, blank := range []string{" ", "\t", "\r\r", " \t \r "} {
			other, at := "", 0
			for _, g := range gaps {
				other += text[at:g.from] + blank
				at = g.to
			}
			wantSameBare(t, text, other+text[at:])
		}
	}
}

// A newline that is a SEP and a ; are the same.
func TestP7NewlinesAndSemicolons(t *testing.T) {
	r := newReader()
	for _, text := range p7Texts() {
		if strings.Contains(text, "--") {
			continue
		}
		for _, token := range impl.Scan(text).Tokens {
			s := r.behind(text[:token.From])
			if token.Kind == impl.TSep || token.Kind == impl.TLine && r.may(s, impl.TSep) {
				for _, sep := range []string{";", "\n", "\n;"} {
					wantSameBare(t, text, text[:token.From]+sep+text[token.To:])
				}
			}
		}
	}
}

// Where a SEP can stand a newline is no blank: what it parts is told apart, or it is a fault.
func TestP7NewlinesThatAreNoBlanks(t *testing.T) {
	r := newReader()
	parted := 0
	for _, text := range p7Texts() {
		for _, token := range impl.Scan(text).Tokens {
			if s := r.behind(text[:token.From]); token.Kind == impl.TLine || token.Kind == impl.TSep || !r.may(s, impl.TSep) {
				continue
			}
			with, sep := impl.Parse(text[:token.From]+"\n"+text[token.From:]), impl.Parse(text[:token.From]+";"+text[token.From:])
			if with.Code != sep.Code || with.At != sep.At || !sameTree(impl.Bare(with.Tree), impl.Bare(sep.Tree)) {
				t.Fatalf("%q: a newline at %d is no SEP", text, token.From)
			}
			parted++
		}
	}
	if parted < 100 {
		t.Error(parted)
	}
}
