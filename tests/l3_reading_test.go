package tests

import (
	"slices"
	"strings"
	"testing"

	"loop.example/warp/impl"
)

// formRows is the rows of 3.1. Words and signs are quoted; a line that begins with or is one more row of the part above it.
const formRows = `
text is stats
stats is SEP* ( stat ( SEP SEP* stat )* SEP* )?
stat is 'let' names ( '=' exprs )?
or 'const' NAME '=' expr
or 'fn' NAME body
or 'if' expr block else?
or 'while' expr block
or 'for' NAME '=' expr ',' expr ( ',' expr )? block
or 'for' names 'in' expr block
or 'break'
or 'next'
or 'return' exprs?
or 'try' block 'catch' NAME ( ',' NAME )? block
or 'throw' expr
or 'defer' call
or block
or target ( ',' target )* '=' exprs
or call
else is 'elif' expr block else?
or 'else' block
block is '{' stats '}'
names is NAME ( ',' NAME )*
exprs is expr ( ',' expr )*
target is NAME
or base '.' NAME
or base '[' expr ']'
call is base '(' exprs? ')'
base is NAME
or '(' expr ')'
or base '.' NAME
or base '[' expr ']'
or call
body is '(' params? ')' block
params is '...'
or NAME ( ',' NAME )* ( ',' '...' )?
expr is unit ( infix unit )*
unit is prefix unit
or base
or INT
or FLT
or STR
or 'nil'
or 'true'
or 'false'
or '...'
or 'fn' body
or table
prefix is 'not'
or '-'
or '#'
or '~'
infix is 'and'
or 'or'
or '+'
or '-'
or '*'
or '/'
or '//'
or '%'
or '&'
or '|'
or '~'
or '<<'
or '>>'
or '..'
or '=='
or '~='
or '<'
or '<='
or '>'
or '>='
table is '{' ( entry ( ',' entry )* ','? )? '}'
entry is expr
or '[' expr ']' '=' expr
or '.' NAME '=' expr
`

// formRule is a row without repetitions: these are parts of their own.
type formRule struct {
	head string
	body []string
}

type formRules struct {
	rules   []formRule
	heads   map[string][]int
	made    int
	nothing map[string]bool
}

var forms = readForms()

func readForms() *formRules {
	f := &formRules{heads: map[string][]int{}, nothing: map[string]bool{}}
	head := ""
	for _, line := range strings.Split(strings.TrimSpace(formRows), "\n") {
		words := strings.Fields(line)
		if words[0] == "or" {
			words = words[1:]
		} else {
			head, words = words[0], words[2:]
		}
		f.add(head, f.body(words)...)
	}
	for again := true; again; {
		again = false
		for _, r := range f.rules {
			all := true
			for _, s := range r.body {
				all = all && f.nothing[s]
			}
			if all && !f.nothing[r.head] {
				f.nothing[r.head], again = true, true
			}
		}
	}
	return f
}

func (f *formRules) add(head string, body ...string) {
	f.heads[head] = append(f.heads[head], len(f.rules))
	f.rules = append(f.rules, formRule{head, body})
}

func (f *formRules) part() string {
	f.made++
	return strings.Repeat("+", f.made)
}

func (f *formRules) body(words []string) []string {
	var body []string
	for i := 0; i < len(words); i++ {
		word := words[i]
		if word == "(" {
			open, from := 1, i+1
			for open > 0 {
				i++
				switch words[i][0] {
				case '(':
					open++
				case ')':
					open--
				}
			}
			group := f.part()
			f.add(group, f.body(words[from:i])...)
			word = group + words[i][1:]
		}
		body = append(body, f.repeated(word))
	}
	return body
}

func (f *formRules) repeated(word string) string {
	if last := word[len(word)-1]; last == '?' || last == '*' {
		word = word[:len(word)-1]
		part := f.part()
		f.add(part)
		if last == '?' {
			f.add(part, word)
		} else {
			f.add(part, word, part)
		}
		return part
	}
	return word
}

func formKinds() map[string]int {
	kinds := map[string]int{"NAME": 1, "INT": 2, "FLT": 3, "STR": 4, "SEP": 5}
	for kind, sign := range fixed {
		kinds["'"+sign+"'"] = kind
	}
	return kinds
}

// reader is a second reading of 3.1: it holds all rows that may be under way, whatever the rows are (Earley's way),
// and keeps what it has found out about the beginnings of texts.
type reader struct {
	*formRules
	kinds map[string]int
	begin *readState
	goes  map[string]bool
}

type readItem struct{ rule, dot, from int }

// readState is what may be under way behind some tokens; line is the states ahead of it and itself.
type readState struct {
	line  []*readState
	items []readItem
	after map[int]*readState
}

func newReader() *reader {
	r := &reader{formRules: forms, kinds: formKinds(), goes: map[string]bool{}}
	r.begin = r.state(nil, []readItem{{rule: r.heads["text"][0]}})
	return r
}

func (r *reader) state(line []*readState, items []readItem) *readState {
	s := &readState{after: map[int]*readState{}}
	s.line = append(slices.Clone(line), s)
	seen := map[readItem]bool{}
	add := func(i readItem) {
		if !seen[i] {
			seen[i] = true
			s.items = append(s.items, i)
		}
	}
	for _, i := range items {
		add(i)
	}
	for n := 0; n < len(s.items); n++ {
		i := s.items[n]
		rule := r.rules[i.rule]
		if i.dot == len(rule.body) {
			for _, j := range s.line[i.from].items {
				if r.wants(j) == rule.head {
					add(readItem{j.rule, j.dot + 1, j.from})
				}
			}
			continue
		}
		for _, k := range r.heads[rule.body[i.dot]] {
			add(readItem{k, 0, len(s.line) - 1})
		}
		if r.nothing[rule.body[i.dot]] {
			add(readItem{i.rule, i.dot + 1, i.from})
		}
	}
	return s
}

func (r *reader) wants(i readItem) string {
	if body := r.rules[i.rule].body; i.dot < len(body) {
		return body[i.dot]
	}
	return ""
}

// next is the state behind one more token, nil when it cannot stand.
func (r *reader) next(s *readState, kind int) *readState {
	after, known := s.after[kind]
	if !known {
		var items []readItem
		for _, i := range s.items {
			if r.kinds[r.wants(i)] == kind {
				items = append(items, readItem{i.rule, i.dot + 1, i.from})
			}
		}
		if items != nil {
			after = r.state(s.line, items)
		}
		s.after[kind] = after
	}
	return after
}

func (r *reader) may(s *readState, kind int) bool {
	if kind != impl.TEnd {
		return r.next(s, kind) != nil
	}
	return slices.ContainsFunc(s.items, func(i readItem) bool {
		return r.rules[i.rule].head == "text" && r.wants(i) == ""
	})
}

// behind is the state behind the tokens of a text, nil when they cannot all stand.
func (r *reader) behind(text string) *readState {
	scanned := impl.Scan(text)
	if !scanned.Ok {
		return nil
	}
	s := r.begin
	for _, t := range scanned.Tokens {
		if t.Kind == impl.TLine {
			if !r.may(s, impl.TSep) {
				continue
			}
			t.Kind = impl.TSep
		}
		if s = r.next(s, t.Kind); s == nil {
			return nil
		}
	}
	return s
}

func (r *reader) wellFormed(text string) bool {
	s := r.behind(text)
	return s != nil && r.may(s, impl.TEnd)
}

// tokenEnds is what a piece of a token can go on with, so that it is one: a name, each word and sign, a number, a string, a remark.
func tokenEnds() []string {
	ends := []string{"", "-", "_z", "0", "0\"", "00\"", "n\"", "\""}
	for _, sign := range fixed {
		for i := 1; i < len(sign); i++ {
			ends = append(ends, sign[i:])
		}
	}
	slices.Sort(ends)
	return slices.Compact(ends)
}

var ends = tokenEnds()

// end is something behind which all tokens of a text can stand, with false when there is nothing.
func (r *reader) end(piece string) (string, bool) {
	for _, end := range ends {
		if r.behind(piece+end) != nil {
			return end, true
		}
	}
	return "", false
}

func (r *reader) goesOn(piece string) bool {
	goes, known := r.goes[piece]
	if !known {
		_, goes = r.end(piece)
		r.goes[piece] = goes
	}
	return goes
}

// at is the place of the first byte from which no text goes on, byte by byte.
func (r *reader) at(text string) int {
	for i := range len(text) {
		if !r.goesOn(text[:i+1]) {
			return i
		}
	}
	return len(text)
}

// completed is a well-formed text that begins with a piece, if there is one.
func (r *reader) completed(piece string) (string, bool) {
	end, ok := r.end(piece)
	if !ok {
		return "", false
	}
	// a newline ends a remark, if this is one; it can stand everywhere
	text := piece + end + "\n"
	// behind a base a call leads to an end, or it leads to a target
	for _, suffix := range []int{impl.TOpen, impl.TDot} {
		if whole, ok := r.ended(text, suffix); ok {
			return whole, true
		}
	}
	return "", false
}

// ended puts the token that leads to an end soonest behind a text, again and again.
func (r *reader) ended(text string, suffix int) (string, bool) {
	soonest := []int{impl.TFinish, impl.TClose, impl.TUnquare, impl.TName, impl.TCatch, impl.TIn, impl.TBegin, impl.TIs, impl.TComma, suffix, impl.TOpen}
	limit := 4*len(text) + 50
	for s := r.behind(text); !r.may(s, impl.TEnd); s = r.behind(text) {
		i := slices.IndexFunc(soonest, func(kind int) bool { return r.may(s, kind) })
		if i < 0 || len(text) > limit {
			return "", false
		}
		text += " " + written(soonest[i])
	}
	return text, true
}

// written is a token of a kind.
func written(kind int) string {
	switch kind {
	case impl.TName:
		return "z"
	case impl.TInt:
		return "7"
	case impl.TFlt:
		return "7.5"
	case impl.TStr:
		return "\"q\""
	}
	return fixed[kind]
}

// tokenKinds is the Kinds of all tokens but the newline.
var tokenKinds = slices.Concat(span(1, 5), span(10, 31), span(40, 50), span(61, 78))

func TestP3TheSecondReadingKnowsItsRows(t *testing.T) {
	r := newReader()
	for _, text := range []string{"", ";", "a()", "let a\nlet b", "x, y.z = {1,}, ...", "{{}}", "for a, b in c {} ; ;"} {
		if !r.wellFormed(text) {
			t.Errorf("%q is not well-formed", text)
		}
	}
	for _, text := range []string{"a", "1", "(a)", "a() b()", "x = {,}", "for a, b = 1, 2 {}", "\"", "fn f(a,) {}"} {
		if r.wellFormed(text) {
			t.Errorf("%q is well-formed", text)
		}
	}
}
